"""Points 23 to 28: a board, and point 3 of it."""

import copy
import unittest

from boards import all_told_of, full_board, hung_board, small_board
from samples import many_names
from stillmain import board as module
from stillmain.board import Board
from stillmain.errors import Held, InUse, Lacks, Stuck, There, TooMany

METHODS = (
    "add", "take", "crew", "leave", "turn", "stick", "mend", "hold", "free", "devices", "jobs",
    "stands", "home", "is_stuck", "jobs_on", "tags", "crew_of", "held_by", "holders", "copied",
)


class BoardTest(unittest.TestCase):
    def assert_refused(self, board, refusal, call, *handed):
        """The call is refused so, twice alike, tells so in its field, and changes nothing."""
        (kind, field, kept) = refusal
        ahead = all_told_of(board)
        for _ in range(2):
            with self.assertRaises(ValueError, msg=(call, handed)) as caught:
                getattr(board, call)(*handed)
            self.assertIs(type(caught.exception), kind, (call, handed))
            self.assertEqual(getattr(caught.exception, field), kept, (call, handed))
            self.assertIs(type(getattr(caught.exception, field)), type(kept))
            self.assertEqual(all_told_of(board), ahead)

    def assert_there(self, board, name, call, *handed):
        self.assert_refused(board, (There, "name", name), call, *handed)

    def assert_lacks(self, board, name, call, *handed):
        self.assert_refused(board, (Lacks, "name", name), call, *handed)

    def assert_too_many(self, board, most, call, *handed):
        self.assert_refused(board, (TooMany, "most", most), call, *handed)

    def assert_in_use(self, board, name, call, *handed):
        self.assert_refused(board, (InUse, "name", name), call, *handed)

    def assert_held(self, board, hands, call, *handed):
        self.assert_refused(board, (Held, "hands", hands), call, *handed)

    def assert_stuck(self, board, name, call, *handed):
        self.assert_refused(board, (Stuck, "name", name), call, *handed)

    def assert_stands(self, board, device, stands, home, jobs):
        self.assertEqual((board.stands(device), board.home(device)), (stands, home), device)
        self.assertEqual(board.jobs_on(device), jobs, device)


class InterfaceTest(unittest.TestCase):
    def test_the_class_defines_its_methods_itself(self):
        self.assertEqual(Board.__module__, "stillmain.board")
        self.assertIs(module.Board, Board)
        for method in METHODS:
            self.assertIn(method, vars(Board))

    def test_deeds_tell_none(self):
        board = Board()
        self.assertIsNone(board.add("a", "open"))
        self.assertIsNone(board.crew("jo", ["ann"]))
        self.assertIsNone(board.turn("a", "shut"))
        self.assertIsNone(board.hold("a", "open", "jo"))
        self.assertIsNone(board.stick("a"))
        self.assertIsNone(board.mend("a"))
        self.assertIsNone(board.free("a", "jo"))
        self.assertIsNone(board.free("a", "jo"))
        self.assertIsNone(board.leave("jo"))
        self.assertIsNone(board.take("a"))

    def test_what_is_told_is_of_pythons_own_kinds(self):
        board = hung_board()
        for told in (board.devices(), board.jobs(), board.jobs_on("s"), board.crew_of("jo"),
                     board.held_by("jo"), board.holders("s", "jo"), board.holders("s", None)):
            self.assertIs(type(told), list)
            self.assertEqual({type(name) for name in told}, {str})
        self.assertIs(type(board.tags("s")), list)
        for tag in board.tags("s"):
            self.assertIs(type(tag), tuple)
            self.assertEqual([type(part) for part in tag], [str, str])
        self.assertIs(type(board.stands("s")), str)
        self.assertIs(type(board.home("s")), str)
        self.assertIs(board.is_stuck("u"), True)
        self.assertIs(board.is_stuck("s"), False)
        self.assertIs(type(board.copied()), Board)


class DevicesTest(BoardTest):
    def test_nothing_at_first(self):
        board = Board()
        self.assertEqual((board.devices(), board.jobs()), ([], []))
        for call in ("take", "stick", "mend", "stands", "home", "is_stuck", "jobs_on", "tags"):
            self.assert_lacks(board, "a", call, "a")
        for call in ("leave", "crew_of", "held_by"):
            self.assert_lacks(board, "jo", call, "jo")
        self.assert_lacks(board, "a", "turn", "a", "open")
        self.assert_lacks(board, "a", "hold", "a", "open", "jo")
        self.assert_lacks(board, "a", "free", "a", "jo")
        self.assert_lacks(board, "a", "holders", "a", None)

    def test_a_device_that_is_added(self):
        for position in ("open", "shut"):
            board = Board()
            board.add("b", position)
            board.add("a", "open")
            self.assertEqual(board.devices(), ["a", "b"])
            self.assert_stands(board, "b", position, position, [])
            self.assertIs(board.is_stuck("b"), False)
            self.assertEqual(board.tags("b"), [])
            self.assertEqual(board.holders("b", None), [])

    def test_there(self):
        board = hung_board()
        for device in board.devices():
            self.assert_there(board, device, "add", device, "open")
            self.assert_there(board, device, "add", device, "shut")
        # A job may be called like a device, and a device like a job.
        board.add("jo", "open")
        board.crew("a", ["ann"])
        self.assertEqual(board.devices(), ["a", "b", "jo", "s", "u"])
        self.assertEqual(board.jobs(), ["a", "al", "jo", "zed"])

    def test_at_most_52(self):
        board = Board()
        devices = many_names(60)
        for device in devices[:52]:
            board.add(device, "shut")
        self.assertEqual(board.devices(), sorted(devices[:52]))
        self.assert_too_many(board, 52, "add", devices[52], "open")
        self.assert_there(board, devices[51], "add", devices[51], "open")
        board.take(devices[7])
        board.add(devices[52], "open")
        self.assert_too_many(board, 52, "add", devices[7], "open")
        self.assertEqual(board.devices(), sorted(devices[:7] + devices[8:53]))

    def test_a_device_is_taken_away(self):
        board = small_board()
        board.take("b")
        self.assertEqual(board.devices(), ["a", "s", "u"])
        self.assert_lacks(board, "b", "take", "b")
        self.assert_lacks(board, "b", "stands", "b")
        self.assert_lacks(board, "jo", "take", "jo")

    def test_one_that_is_held_is_not_taken_away(self):
        board = hung_board()
        self.assert_held(board, ["ann", "bo"], "take", "a")
        self.assert_held(board, ["ann", "bo", "cy", "dee"], "take", "s")
        board.take("b")
        for job in ("al", "jo", "zed"):
            board.free("s", job)
        board.take("s")
        self.assertEqual(board.devices(), ["a", "u"])
        self.assertEqual(board.held_by("jo"), ["a", "u"])

    def test_one_that_is_added_again_is_new(self):
        board = small_board()
        board.turn("b", "shut")
        board.stick("b")
        board.take("b")
        board.add("b", "open")
        self.assert_stands(board, "b", "open", "open", [])
        self.assertIs(board.is_stuck("b"), False)


class CrewTest(BoardTest):
    def test_a_crew_in_the_told_order(self):
        board = small_board()
        self.assertEqual(board.jobs(), ["al", "jo", "zed"])
        self.assertEqual(board.crew_of("jo"), ["bo", "ann"])
        self.assertEqual(board.crew_of("al"), ["cy"])
        self.assert_lacks(board, "bo", "crew_of", "bo")

    def test_of_1_to_6_hands(self):
        board = Board()
        for many in range(1, 7):
            board.crew("jo", many_names(60)[-many:])
            self.assertEqual(board.crew_of("jo"), many_names(60)[-many:])
        self.assertEqual(board.jobs(), ["jo"])

    def test_put_in_the_place_of_the_one_it_had(self):
        board = hung_board()
        board.crew("jo", ["eve", "dee", "ann"])
        self.assertEqual(board.crew_of("jo"), ["eve", "dee", "ann"])
        self.assertEqual(board.tags("u"), [("jo", "ann"), ("jo", "dee"), ("jo", "eve")])
        self.assertEqual(board.holders("s", None), ["ann", "cy", "dee", "eve"])
        self.assert_held(board, ["ann", "dee", "eve"], "turn", "a", "open")
        board.crew("jo", ["cy"])
        self.assertEqual(board.tags("s"), [("al", "cy"), ("jo", "cy"), ("zed", "ann"), ("zed", "dee")])
        self.assertEqual(board.holders("s", None), ["ann", "cy", "dee"])
        self.assertEqual(board.held_by("jo"), ["a", "s", "u"])
        self.assert_held(board, ["cy"], "take", "u")

    def test_at_most_8_jobs(self):
        board = Board()
        jobs = many_names(10)
        for job in jobs[:8]:
            board.crew(job, ["ann"])
        self.assert_too_many(board, 8, "crew", jobs[8], ["ann"])
        # One that the board knows is no ninth.
        for job in jobs[:8]:
            board.crew(job, ["bo", "cy"])
            self.assertEqual(board.crew_of(job), ["bo", "cy"])
        board.leave(jobs[2])
        board.crew(jobs[8], ["dee"])
        self.assert_too_many(board, 8, "crew", jobs[2], ["ann"])
        self.assertEqual(board.jobs(), sorted(jobs[:2] + jobs[3:9]))

    def test_a_job_leaves(self):
        board = small_board()
        board.leave("al")
        self.assertEqual(board.jobs(), ["jo", "zed"])
        self.assert_lacks(board, "al", "leave", "al")
        self.assert_lacks(board, "al", "crew_of", "al")
        self.assert_lacks(board, "al", "held_by", "al")
        self.assert_lacks(board, "al", "hold", "a", "shut", "al")
        board.crew("al", ["eve"])
        self.assertEqual(board.crew_of("al"), ["eve"])

    def test_a_job_whose_tags_hang_does_not_leave(self):
        board = hung_board()
        for job in ("al", "jo", "zed"):
            self.assert_in_use(board, job, "leave", job)
        board.free("s", "al")
        board.leave("al")
        self.assertEqual(board.jobs(), ["jo", "zed"])
        board.free("a", "jo")
        board.free("s", "jo")
        # Its tags hang on u still.
        self.assert_in_use(board, "jo", "leave", "jo")
        board.mend("u")
        board.free("u", "jo")
        board.leave("jo")
        self.assertEqual(board.jobs(), ["zed"])
        self.assertEqual(board.tags("s"), [("zed", "ann"), ("zed", "dee")])


class TurnTest(BoardTest):
    def test_to_turn_makes_it_home(self):
        board = small_board()
        board.turn("b", "shut")
        self.assert_stands(board, "b", "shut", "shut", [])
        board.turn("b", "shut")
        self.assert_stands(board, "b", "shut", "shut", [])
        board.turn("b", "open")
        self.assert_stands(board, "b", "open", "open", [])
        board.turn("u", "open")
        self.assert_stands(board, "u", "open", "open", [])
        self.assert_stands(board, "a", "shut", "shut", [])

    def test_lacks(self):
        for board in (small_board(), hung_board()):
            self.assert_lacks(board, "x", "turn", "x", "open")
            self.assert_lacks(board, "jo", "turn", "jo", "shut")
            self.assert_lacks(board, "bo", "turn", "bo", "shut")

    def test_held_where_any_tags_hang(self):
        board = hung_board()
        for position in ("open", "shut"):
            self.assert_held(board, ["ann", "bo"], "turn", "a", position)
            self.assert_held(board, ["ann", "bo"], "turn", "u", position)
            self.assert_held(board, ["ann", "bo", "cy", "dee"], "turn", "s", position)
        board.turn("b", "shut")

    def test_stuck_where_it_stands_elsewhere(self):
        board = small_board()
        board.stick("b")
        self.assert_stuck(board, "b", "turn", "b", "shut")
        board.turn("b", "open")
        self.assert_stands(board, "b", "open", "open", [])
        self.assertIs(board.is_stuck("b"), True)
        board.mend("b")
        board.turn("b", "shut")
        self.assert_stands(board, "b", "shut", "shut", [])

    def test_held_goes_ahead_of_stuck(self):
        board = hung_board()
        self.assert_held(board, ["ann", "bo"], "turn", "u", "shut")
        board.stick("s")
        self.assert_held(board, ["ann", "bo", "cy", "dee"], "turn", "s", "open")


class StickTest(BoardTest):
    def test_stuck_till_it_is_mended(self):
        board = small_board()
        board.stick("a")
        self.assertEqual([board.is_stuck(device) for device in "absu"], [True, False, False, False])
        board.mend("a")
        self.assertEqual([board.is_stuck(device) for device in "absu"], [False] * 4)

    def test_told_again_changes_nothing(self):
        board = hung_board()
        for deed, stuck in (("stick", True), ("mend", False)):
            getattr(board, deed)("s")
            ahead = all_told_of(board)
            self.assertIs(board.is_stuck("s"), stuck)
            for _ in range(2):
                self.assertIsNone(getattr(board, deed)("s"))
                self.assertEqual(all_told_of(board), ahead)
        # One told stuck twice is mended at once.
        board.stick("s")
        board.stick("s")
        board.mend("s")
        self.assertIs(board.is_stuck("s"), False)

    def test_nothing_else_changes(self):
        board = hung_board()
        for deed, stuck in (("stick", True), ("mend", False)):
            for device in board.devices():
                ahead = all_told_of(board)
                getattr(board, deed)(device)
                ahead["is_stuck"][ahead["devices"].index(device)] = stuck
                self.assertEqual(all_told_of(board), ahead)

    def test_lacks(self):
        board = hung_board()
        for name in ("x", "jo", "bo"):
            self.assert_lacks(board, name, "stick", name)
            self.assert_lacks(board, name, "mend", name)


class HoldTest(BoardTest):
    def test_it_stands_there_and_its_home_stays(self):
        board = small_board()
        board.hold("b", "shut", "jo")
        self.assert_stands(board, "b", "shut", "open", ["jo"])
        self.assertEqual(board.tags("b"), [("jo", "ann"), ("jo", "bo")])
        board.hold("u", "open", "al")
        self.assert_stands(board, "u", "open", "shut", ["al"])
        board.hold("a", "shut", "al")
        self.assert_stands(board, "a", "shut", "shut", ["al"])
        self.assertEqual(board.held_by("al"), ["a", "u"])
        self.assertEqual(board.held_by("jo"), ["b"])
        self.assertEqual(board.held_by("zed"), [])

    def test_held_again(self):
        board = small_board()
        board.hold("b", "shut", "jo")
        ahead = all_told_of(board)
        board.hold("b", "shut", "jo")
        self.assertEqual(all_told_of(board), ahead)
        # Its own tags are in nobody's way.
        board.hold("b", "open", "jo")
        self.assert_stands(board, "b", "open", "open", ["jo"])
        board.hold("b", "shut", "jo")
        self.assertEqual(all_told_of(board), ahead)
        board.free("b", "jo")
        self.assert_stands(board, "b", "open", "open", [])

    def test_held_by_others_where_it_stands_already(self):
        board = small_board()
        board.hold("b", "shut", "zed")
        board.hold("b", "shut", "al")
        board.stick("b")
        board.hold("b", "shut", "jo")
        self.assert_stands(board, "b", "shut", "open", ["al", "jo", "zed"])
        self.assertEqual(board.tags("b"), [
            ("al", "cy"), ("jo", "ann"), ("jo", "bo"), ("zed", "ann"), ("zed", "dee")])

    def test_held_by_others_where_it_stands_elsewhere(self):
        board = hung_board()
        # The hands of the other jobs alone, each once.
        self.assert_held(board, ["ann", "cy", "dee"], "hold", "s", "open", "jo")
        self.assert_held(board, ["ann", "bo", "dee"], "hold", "s", "open", "al")
        self.assert_held(board, ["ann", "bo"], "hold", "a", "open", "al")
        # A hand of both crews is told for the other one's tags.
        self.assert_held(board, ["ann", "bo"], "hold", "a", "open", "zed")
        board.free("s", "al")
        board.free("s", "zed")
        board.hold("s", "open", "jo")
        self.assert_stands(board, "s", "open", "open", ["jo"])

    def test_stuck_where_it_stands_elsewhere(self):
        board = small_board()
        board.stick("b")
        self.assert_stuck(board, "b", "hold", "b", "shut", "jo")
        board.hold("b", "open", "jo")
        self.assert_stands(board, "b", "open", "open", ["jo"])
        self.assert_stuck(board, "b", "hold", "b", "shut", "jo")
        board.mend("b")
        board.hold("b", "shut", "jo")
        self.assert_stands(board, "b", "shut", "open", ["jo"])

    def test_refusals_in_order(self):
        board = hung_board()
        board.stick("s")
        self.assert_lacks(board, "x", "hold", "x", "open", "y")
        self.assert_lacks(board, "jo", "hold", "jo", "open", "s")
        self.assert_lacks(board, "y", "hold", "s", "open", "y")
        self.assert_lacks(board, "y", "hold", "s", "shut", "y")
        self.assert_lacks(board, "s", "hold", "u", "shut", "s")
        self.assert_held(board, ["ann", "cy", "dee"], "hold", "s", "open", "jo")
        board.free("s", "al")
        board.free("s", "zed")
        self.assert_stuck(board, "s", "hold", "s", "open", "jo")


class FreeTest(BoardTest):
    def test_it_goes_home_when_the_last_tags_are_taken_off(self):
        board = small_board()
        board.hold("b", "shut", "jo")
        board.hold("b", "shut", "al")
        board.free("b", "jo")
        self.assert_stands(board, "b", "shut", "open", ["al"])
        board.free("b", "al")
        self.assert_stands(board, "b", "open", "open", [])
        board.hold("u", "open", "zed")
        board.free("u", "zed")
        self.assert_stands(board, "u", "shut", "shut", [])

    def test_it_stays_where_it_is_at_home(self):
        board = small_board()
        board.turn("b", "shut")
        board.hold("b", "shut", "jo")
        board.stick("b")
        board.free("b", "jo")
        self.assert_stands(board, "b", "shut", "shut", [])
        board.mend("b")
        board.turn("b", "open")
        self.assert_stands(board, "b", "open", "open", [])

    def test_nothing_is_done_where_its_tags_do_not_hang(self):
        board = hung_board()
        board.stick("s")
        board.stick("b")
        ahead = all_told_of(board)
        for device, job in (("a", "al"), ("u", "zed"), ("u", "al"), ("b", "jo"), ("a", "zed")):
            self.assertIsNone(board.free(device, job))
            self.assertEqual(all_told_of(board), ahead)

    def test_stuck_where_it_would_have_to_move(self):
        board = hung_board()
        self.assert_stuck(board, "u", "free", "u", "jo")
        self.assertEqual(board.tags("u"), [("jo", "ann"), ("jo", "bo")])
        board.hold("u", "open", "al")
        # It need not move while another one's tags hang on it.
        board.free("u", "jo")
        self.assert_stands(board, "u", "open", "shut", ["al"])
        self.assert_stuck(board, "u", "free", "u", "al")
        board.mend("u")
        board.free("u", "al")
        self.assert_stands(board, "u", "shut", "shut", [])

    def test_refusals_in_order(self):
        board = hung_board()
        self.assert_lacks(board, "x", "free", "x", "y")
        self.assert_lacks(board, "x", "free", "x", "jo")
        self.assert_lacks(board, "y", "free", "u", "y")
        self.assert_lacks(board, "u", "free", "u", "u")
        self.assert_lacks(board, "jo", "free", "jo", "jo")
        self.assert_stuck(board, "u", "free", "u", "jo")


class ToldTest(BoardTest):
    def test_all_is_told_sorted(self):
        board = hung_board()
        self.assertEqual(board.devices(), ["a", "b", "s", "u"])
        self.assertEqual(board.jobs(), ["al", "jo", "zed"])
        self.assertEqual(board.jobs_on("s"), ["al", "jo", "zed"])
        self.assertEqual(board.jobs_on("b"), [])
        self.assertEqual(board.tags("s"), [
            ("al", "cy"), ("jo", "ann"), ("jo", "bo"), ("zed", "ann"), ("zed", "dee")])
        self.assertEqual(board.tags("b"), [])
        self.assertEqual(board.held_by("jo"), ["a", "s", "u"])
        self.assertEqual(board.held_by("al"), ["s"])

    def test_holders_beside_a_job(self):
        board = hung_board()
        self.assertEqual(board.holders("s", None), ["ann", "bo", "cy", "dee"])
        self.assertEqual(board.holders("s", "jo"), ["ann", "cy", "dee"])
        self.assertEqual(board.holders("s", "al"), ["ann", "bo", "dee"])
        self.assertEqual(board.holders("s", "zed"), ["ann", "bo", "cy"])
        self.assertEqual(board.holders("u", None), ["ann", "bo"])
        self.assertEqual(board.holders("u", "jo"), [])
        self.assertEqual(board.holders("u", "zed"), ["ann", "bo"])
        self.assertEqual(board.holders("b", None), [])

    def test_holders_beside_a_job_that_the_board_does_not_know(self):
        board = hung_board()
        for job in ("x", "none", "ann", "s"):
            self.assertEqual(board.holders("s", job), ["ann", "bo", "cy", "dee"])
            self.assertEqual(board.holders("b", job), [])
            self.assert_lacks(board, "x", "holders", "x", job)
        self.assert_lacks(board, "x", "holders", "x", None)
        self.assert_lacks(board, "jo", "holders", "jo", "jo")

    def test_lacks(self):
        board = hung_board()
        for call in ("stands", "home", "is_stuck", "jobs_on", "tags"):
            for name in ("x", "jo", "bo", "aa"):
                self.assert_lacks(board, name, call, name)
        for call in ("crew_of", "held_by"):
            for name in ("x", "s", "bo", "joo"):
                self.assert_lacks(board, name, call, name)

    def test_asking_changes_nothing(self):
        for board in (Board(), small_board(), hung_board(), full_board()):
            self.assertEqual(all_told_of(board), all_told_of(board))


class ListsTest(BoardTest):
    def lists_told(self, board):
        told = [board.devices(), board.jobs()]
        told += [ask(device) for device in board.devices() for ask in (board.jobs_on, board.tags)]
        told += [ask(job) for job in board.jobs() for ask in (board.crew_of, board.held_by)]
        told += [board.holders(device, job) for device in board.devices()
                 for job in board.jobs() + [None]]
        return told

    def test_told_lists_are_the_askers_own(self):
        for board in (small_board(), hung_board(), full_board()):
            ahead = all_told_of(board)
            for told in self.lists_told(board):
                told.reverse()
                told.append("zzz")
                del told[0]
                self.assertEqual(all_told_of(board), ahead)
                told.clear()
                self.assertEqual(all_told_of(board), ahead)

    def test_a_crew_that_is_handed_in_stays_and_is_changed_behind_the_call(self):
        board = small_board()
        hands = ["eve", "bo"]
        board.crew("jo", hands)
        self.assertEqual(hands, ["eve", "bo"])
        board.crew("al", hands)
        board.hold("b", "shut", "jo")
        ahead = all_told_of(board)
        hands.append("gil")
        self.assertEqual(all_told_of(board), ahead)
        hands.clear()
        self.assertEqual(all_told_of(board), ahead)
        board.crew("jo", ["flo"])
        self.assertEqual(board.crew_of("al"), ["eve", "bo"])
        self.assertEqual(hands, [])

    def test_what_was_told_stays(self):
        board = hung_board()
        told = self.lists_told(board)
        ahead = copy.deepcopy(told)
        board.crew("jo", ["eve"])
        board.free("s", "al")
        board.take("b")
        board.leave("al")
        self.assertEqual(told, ahead)

    def test_the_hands_of_a_refusal_are_the_askers_own(self):
        for handed in (("take", "s"), ("turn", "s", "open"), ("hold", "s", "open", "jo")):
            board = hung_board()
            ahead = all_told_of(board)
            wanted = None
            for _ in range(3):
                with self.assertRaises(Held) as caught:
                    getattr(board, handed[0])(*handed[1:])
                hands = caught.exception.hands
                wanted = wanted or list(hands)
                self.assertEqual(hands, wanted)
                hands.append("zzz")
                hands.reverse()
                self.assertEqual(all_told_of(board), ahead)

    def test_the_hands_of_a_refusal_stay_as_they_were_at_that_moment(self):
        board = hung_board()
        with self.assertRaises(Held) as caught:
            board.take("a")
        board.crew("jo", ["eve"])
        self.assertEqual(caught.exception.hands, ["ann", "bo"])
        self.assert_held(board, ["eve"], "take", "a")


if __name__ == "__main__":
    unittest.main()
