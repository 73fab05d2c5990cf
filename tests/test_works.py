"""Points 36 and 38: a works, its layout and its devices, and what settles behind each deed."""

import unittest

from boards import all_told_of
from layouts import all_told
from refusing import RefusingTest
from samples import many_names
from stillmain import works as module
from stillmain.board import Board
from stillmain.errors import Held, InUse, Lacks, Stuck, There, TooMany
from stillmain.layout import Layout
from stillmain.works import Works
from workses import SMALL, all_told_of_works, called, done, full_works, given_works, small_works, steps_done, works_of

METHODS = (
    "add_room", "add_line", "add_drain", "add_source", "take_room", "take_line", "take_drain",
    "take_source", "turn", "stick", "mend", "ask", "begin", "give", "end", "put_by", "try_out", "go_on",
    "sign_on", "sign_off", "hand_over", "relieve", "step", "layout", "board", "shut", "opened", "wet",
    "jobs", "phase", "stretch", "crew_at", "steps_left", "lot", "copied",
)


class WorksTest(RefusingTest):
    def assert_not_done(self, works, refusal, call, *handed):
        self.assert_refused(lambda: all_told_of_works(works), refusal, getattr(works, call), *handed)


class InterfaceTest(unittest.TestCase):
    def test_the_class_defines_its_methods_itself(self):
        self.assertEqual(Works.__module__, "stillmain.works")
        self.assertIs(module.Works, Works)
        for method in METHODS:
            self.assertIn(method, vars(Works))

    def test_deeds_tell_none_but_a_step(self):
        works = Works()
        for row in SMALL + (
                "turn a shut", "turn a open", "stick a", "mend a", "ask jo ann r", "begin jo", "put_by jo",
                "begin jo"):
            self.assertIsNone(called(works, row), row)
        self.assertEqual(works.step("jo"), ("c", "shut"))
        steps_done(works, "jo")
        for row in ("give jo", "sign_on jo bo", "hand_over jo bo cy", "relieve cy dee", "sign_off jo dee",
                    "try_out jo", "go_on jo", "end jo"):
            self.assertIsNone(called(works, row), row)
        self.assertEqual(works.step("jo"), ("u", None))
        for row in ("take_drain w", "take_line e", "take_room t", "take_source p"):
            self.assertIsNone(called(works, row), row)

    def test_what_is_told_is_of_pythons_own_kinds(self):
        works = given_works()
        for told in (works.shut(), works.opened(), works.wet(), works.jobs(), works.stretch("jo"),
                     works.crew_at("jo"), *works.lot("jo")):
            self.assertIs(type(told), list)
            self.assertEqual({type(name) for name in told}, {str})
        self.assertIs(type(works.lot("jo")), tuple)
        self.assertIs(type(works.phase("jo")), str)
        self.assertEqual({type(step) for step in works.steps_left("al")}, {tuple})
        self.assertIs(type(works.layout()), Layout)
        self.assertIs(type(works.board()), Board)
        self.assertIs(type(works.copied()), Works)


class NothingTest(WorksTest):
    def test_nothing_at_first(self):
        works = Works()
        self.assertEqual(all_told(works.layout()), all_told(Layout()))
        self.assertEqual(all_told_of(works.board()), all_told_of(Board()))
        self.assertEqual((works.shut(), works.opened(), works.wet(), works.jobs()), ([], [], [], []))
        for call in ("take_room", "take_line", "take_drain", "take_source", "stick", "mend", "begin",
                     "step", "give", "end", "put_by", "try_out", "go_on", "phase", "stretch", "crew_at",
                     "steps_left", "lot", "add_source"):
            self.assert_not_done(works, (Lacks, "a"), call, "a")
        self.assert_not_done(works, (Lacks, "a"), "turn", "a", "open")
        self.assert_not_done(works, (Lacks, "p"), "add_line", "a", "p", "q", 1)
        self.assert_not_done(works, (Lacks, "p"), "add_drain", "u", "p")
        self.assert_not_done(works, (Lacks, "p"), "ask", "jo", "ann", ["p"])
        self.assert_not_done(works, (Lacks, "ann"), "relieve", "ann", "bo")

    def test_two_works_know_nothing_of_one_another(self):
        one, other = small_works(), Works()
        done(one, "ask jo ann r", "begin jo", "step jo")
        self.assertEqual(all_told_of_works(other), all_told_of_works(Works()))


class LayoutTest(WorksTest):
    def test_it_is_as_a_layout_is(self):
        works, layout = Works(), Layout()
        for row in SMALL + ("add_source t", "take_source p", "take_line a", "take_drain u", "take_line c",
                            "take_line d", "take_room r", "add_room z", "add_line a z t 0", "add_drain u z"):
            called(works, row)
            called(layout, row)
            self.assertEqual(all_told(works.layout()), all_told(layout))

    def test_devices_are_the_lines_with_a_switch_and_the_drains(self):
        works = small_works()
        board = works.board()
        self.assertEqual(board.devices(), ["a", "b", "c", "d", "f", "u", "v", "w", "x"])
        for switch in "abcdf":
            self.assertEqual((board.stands(switch), board.home(switch)), ("open", "open"))
        for drain in "uvwx":
            self.assertEqual((board.stands(drain), board.home(drain)), ("shut", "shut"))
        for device in board.devices():
            self.assertIs(board.is_stuck(device), False)
            self.assertEqual(board.tags(device), [])
        self.assertEqual((works.shut(), works.opened()), ([], []))

    def test_what_was_taken_away_and_comes_again_is_new(self):
        works = small_works()
        done(works, "turn a shut", "stick a", "take_line a")
        self.assertNotIn("a", works.board().devices())
        self.assertEqual(works.shut(), [])
        works.add_line("a", "t", "q", 1)
        self.assertEqual((works.board().stands("a"), works.board().is_stuck("a")), ("open", False))
        done(works, "take_line a", "add_line a p q 0")
        self.assertNotIn("a", works.board().devices())
        done(works, "take_line a", "add_drain a p")
        self.assertEqual(works.board().stands("a"), "shut")
        done(works, "stick u", "take_drain u", "add_drain u q")
        self.assertIs(works.board().is_stuck("u"), False)
        done(works, "take_drain u", "add_line u p q 5")
        self.assertEqual(works.board().stands("u"), "open")

    def test_a_line_of_cost_0_is_no_device(self):
        works = small_works()
        self.assertNotIn("e", works.board().devices())
        for call in ("stick", "mend"):
            self.assert_not_done(works, (Lacks, "e"), call, "e")
        self.assert_not_done(works, (Lacks, "e"), "turn", "e", "open")
        works.take_line("e")
        self.assertNotIn("e", works.layout().lines())

    def test_the_refusals_of_a_layout(self):
        works = small_works()
        for refusal, call, *handed in (
                ((There, "p"), "add_room", "p"), ((There, "a"), "add_line", "a", "p", "q", 1),
                ((There, "u"), "add_line", "u", "z", "y", 0), ((Lacks, "z"), "add_line", "l", "z", "y", 1),
                ((Lacks, "y"), "add_line", "l", "p", "y", 1), ((There, "u"), "add_drain", "u", "q"),
                ((There, "a"), "add_drain", "a", "z"), ((Lacks, "z"), "add_drain", "z", "z"),
                ((Lacks, "z"), "add_source", "z"), ((There, "p"), "add_source", "p"),
                ((Lacks, "z"), "take_room", "z"), ((InUse, "q"), "take_room", "q"),
                ((Lacks, "u"), "take_line", "u"), ((Lacks, "a"), "take_drain", "a"),
                ((Lacks, "q"), "take_source", "q"), ((Lacks, "z"), "take_source", "z")):
            self.assert_not_done(works, refusal, call, *handed)

    def test_to_the_bounds(self):
        works = full_works()
        rooms = many_names(24)
        self.assertEqual(len(works.board().devices()), 52)
        self.assert_not_done(works, (TooMany, 24), "add_room", "z")
        self.assert_not_done(works, (TooMany, 40), "add_line", "z", rooms[0], rooms[1], 1)
        self.assert_not_done(works, (TooMany, 12), "add_drain", "z", rooms[0])
        self.assert_not_done(works, (TooMany, 8), "ask", "z", "ann", [rooms[0]])
        self.assert_not_done(works, (There, rooms[3]), "add_room", rooms[3])
        works.end(works.jobs()[0])
        works.ask("z", "ann", [rooms[0]])
        works.take_drain("d" + rooms[0])
        works.add_drain("z", rooms[0])
        self.assertEqual(len(works.board().devices()), 52)


class DevicesTest(WorksTest):
    def test_turn(self):
        works = small_works()
        done(works, "turn c shut")
        self.assertEqual((works.shut(), works.board().home("c")), (["c"], "shut"))
        done(works, "turn a shut", "turn c shut")
        self.assertEqual(works.shut(), ["a", "c"])
        done(works, "turn c open", "turn b open")
        self.assertEqual((works.shut(), works.board().home("c")), (["a"], "open"))

    def test_turn_lacks_what_is_no_line_with_a_switch(self):
        works = small_works()
        for name in ("e", "u", "x", "p", "z", "jo"):
            for position in ("open", "shut"):
                self.assert_not_done(works, (Lacks, name), "turn", name, position)

    def test_turn_is_refused_as_on_a_board(self):
        works = small_works()
        done(works, "stick c", "turn c open")
        self.assert_not_done(works, (Stuck, "c"), "turn", "c", "shut")
        done(works, "mend c", "ask jo ann r", "ask al eve r", "begin jo", "begin al", "step jo", "step al")
        for position in ("open", "shut"):
            self.assert_not_done(works, (Held, ["ann", "eve"]), "turn", "c", position)
        done(works, "stick c")
        self.assert_not_done(works, (Held, ["ann", "eve"]), "turn", "c", "open")

    def test_stuck_and_mended(self):
        works = small_works()
        for device in ("a", "u"):
            done(works, "stick " + device, "stick " + device)
            self.assertIs(works.board().is_stuck(device), True)
            done(works, "mend " + device, "mend " + device)
            self.assertIs(works.board().is_stuck(device), False)
        for name in ("e", "p", "z", "jo"):
            self.assert_not_done(works, (Lacks, name), "stick", name)
            self.assert_not_done(works, (Lacks, name), "mend", name)


class SettlingTest(WorksTest):
    def assert_wet(self, works, *rooms):
        self.assertEqual(works.wet(), list(rooms))

    def test_behind_each_deed_on_the_layout(self):
        works = Works()
        for row, rooms in (
                ("add_room q", ""), ("add_room p", ""), ("add_source q", "q"), ("add_line a p q 1", "pq"),
                ("add_room r", "pq"), ("add_drain u r", "pq"), ("add_line b r p 0", "pqr"),
                ("take_source q", "pqr"), ("add_drain v p", "pqr"), ("take_line a", "pqr"),
                ("add_room s", "pqr"), ("add_line c s q 4", "pqrs"), ("take_line c", "pqrs"),
                ("take_room s", "pqr"), ("add_room s", "pqr"), ("take_line b", "pqr"),
                ("add_line d q s 0", "pqrs")):
            done(works, row)
            self.assert_wet(works, *rooms)

    def test_a_new_room_is_dry(self):
        works = works_of("add_room p", "add_source p", "take_source p")
        self.assert_wet(works, "p")
        done(works, "take_room p")
        self.assert_wet(works)
        done(works, "add_room p")
        self.assert_wet(works)

    def test_a_part_is_wet_as_a_whole(self):
        works = works_of("add_room p", "add_room q", "add_source q", "take_source q", "add_line a p q 3")
        self.assert_wet(works, "p", "q")
        done(works, "turn a shut", "add_room r", "add_line b q r 0")
        self.assert_wet(works, "p", "q", "r")

    def test_behind_turns(self):
        works = works_of("add_room p", "add_room q", "add_source p", "add_line a p q 3", "turn a shut")
        self.assert_wet(works, "p", "q")
        works = works_of("add_room p", "add_room q", "add_line a p q 3", "turn a shut", "add_source p")
        self.assert_wet(works, "p")
        done(works, "turn a open")
        self.assert_wet(works, "p", "q")

    def test_behind_steps(self):
        works = small_works()
        self.assert_wet(works, *"pqrst")
        done(works, "ask jo ann r", "begin jo")
        for step, rooms in ((("c", "shut"), "pqrst"), (("d", "shut"), "pqrst"), (("u", "open"), "pqst")):
            self.assertEqual(works.step("jo"), step)
            self.assert_wet(works, *rooms)
        self.assertEqual((works.shut(), works.opened()), (["c", "d"], ["u"]))
        done(works, "give jo", "try_out jo")
        for step, rooms in ((("u", "shut"), "pqst"), (("d", "open"), "pqrst"), (("c", "open"), "pqrst")):
            self.assertEqual(works.step("jo"), step)
            self.assert_wet(works, *rooms)
        self.assertEqual((works.shut(), works.opened()), ([], []))
        done(works, "go_on jo")
        steps_done(works, "jo")
        self.assert_wet(works, *"pqst")
        done(works, "end jo")
        for step, rooms in ((("u", None), "pqst"), (("d", None), "pqrst"), (("c", None), "pqrst")):
            self.assertEqual(works.step("jo"), step)
            self.assert_wet(works, *rooms)

    def test_a_drain_dries_its_whole_part(self):
        works = small_works()
        done(works, "ask jo ann t", "begin jo")
        self.assertEqual(works.lot("jo"), (["d", "f"], ["s", "t"], ["v", "w"]))
        done(works, "step jo", "step jo")
        self.assert_wet(works, *"pqrst")
        self.assertEqual(works.step("jo"), ("v", "open"))
        self.assert_wet(works, *"pqr")
        # What stands dry stays so when the drain is shut.
        done(works, "put_by jo", "step jo")
        self.assertEqual(works.opened(), [])
        self.assert_wet(works, *"pqr")

    def test_what_was_wet_stays_so_where_no_drain_is_open(self):
        works = small_works()
        done(works, "turn a shut", "turn b shut")
        self.assert_wet(works, *"pqrst")
        done(works, "take_source p")
        self.assert_wet(works, *"pqrst")


if __name__ == "__main__":
    unittest.main()
