"""Point 4 of a board: what is refused with Wrong, ahead of all else."""

import copy
import itertools
import unittest

from boards import all_told_of, full_board, hung_board
from samples import many_names, not_crews, not_names, not_positions
from stillmain.board import Board
from stillmain.errors import Lacks, Wrong

DOORS = {
    "add": ("name", "position"), "take": ("name",), "crew": ("name", "hands"), "leave": ("name",),
    "turn": ("name", "position"), "stick": ("name",), "mend": ("name",),
    "hold": ("name", "position", "name"), "free": ("name", "name"), "stands": ("name",),
    "home": ("name",), "is_stuck": ("name",), "jobs_on": ("name",), "tags": ("name",),
    "crew_of": ("name",), "held_by": ("name",), "holders": ("name", "name or None"),
}

# Such as are there, and such as aren't.
FITTING = {
    "name": ("s", "jo", "x"), "position": ("open", "shut"), "hands": (["ann"], ["bo", "cy"]),
    "name or None": ("jo", "x", None),
}


def not_fitting(want):
    if want == "name or None":
        return [thing for thing in not_names() if thing is not None]
    return {"name": not_names, "position": not_positions, "hands": not_crews}[want]()


class DoorsTest(unittest.TestCase):
    def assert_wrong(self, board, at, call, *handed):
        ahead = all_told_of(board) if len(board.devices()) < 9 else None
        for _ in range(2):
            with self.assertRaises(ValueError, msg=(call, handed)) as caught:
                getattr(board, call)(*handed)
            self.assertIs(type(caught.exception), Wrong, (call, handed))
            self.assertEqual(caught.exception.at, at, (call, handed))
            self.assertIs(type(caught.exception.at), int)
        if ahead is not None:
            self.assertEqual(all_told_of(board), ahead)

    def test_one_thing_wrong(self):
        for board in (Board(), hung_board(), full_board()):
            ahead = all_told_of(board)
            for call, wants in DOORS.items():
                for at, want in enumerate(wants):
                    for thing in not_fitting(want):
                        handed = [FITTING[other][0] for other in wants]
                        handed[at] = thing
                        self.assert_wrong(board, at, call, *handed)
            self.assertEqual(all_told_of(board), ahead)

    def test_beside_things_that_fit(self):
        for call, wants in DOORS.items():
            for at in range(len(wants)):
                for handed in itertools.product(*[FITTING[want] for want in wants]):
                    for thing in (0, "", "A", ["ann", "ann"], many_names(7), [], {"a": 1}):
                        wrong = list(handed)
                        wrong[at] = thing
                        self.assert_wrong(hung_board(), at, call, *wrong)

    def test_several_things_wrong(self):
        some = (True, 0, "", "Open", "ann bo", ["ann", "ann"], [], {}, ("open",))
        for call, wants in DOORS.items():
            for many in range(2, len(wants) + 1):
                for places in itertools.combinations(range(len(wants)), many):
                    for things in itertools.product(some, repeat=many):
                        handed = [FITTING[want][0] for want in wants]
                        for at, thing in zip(places, things):
                            handed[at] = thing
                        self.assert_wrong(hung_board(), places[0], call, *handed)

    def test_no_job_is_let_by_beside_a_device_alone(self):
        board = hung_board()
        self.assertEqual(board.holders("u", None), ["ann", "bo"])
        self.assert_wrong(board, 0, "holders", None, None)
        self.assert_wrong(board, 0, "holders", None, "jo")
        self.assert_wrong(board, 2, "hold", "a", "shut", None)
        self.assert_wrong(board, 1, "free", "a", None)
        self.assert_wrong(board, 0, "leave", None)
        self.assert_wrong(board, 0, "crew", None, ["ann"])
        self.assert_wrong(board, 0, "crew_of", None)
        self.assert_wrong(board, 0, "held_by", None)
        self.assert_wrong(board, 1, "hold", "a", None, "jo")

    def test_crews_of_none_and_of_seven(self):
        board = hung_board()
        for hands in ([], many_names(7), ["ann", "bo", "ann"], ["ann", "ann"], ("ann",), "ann",
                      ["ann", "Bo"], ["ann", 0], [["ann"]], None):
            self.assert_wrong(board, 1, "crew", "jo", hands)
            self.assert_wrong(board, 1, "crew", "new", hands)
            self.assert_wrong(full_board(), 1, "crew", "new", hands)
        for many in range(1, 7):
            board.crew("jo", many_names(many))

    def test_wrong_goes_ahead_of_lacks(self):
        board = hung_board()
        self.assert_wrong(board, 1, "turn", "x", "ajar")
        self.assert_wrong(board, 1, "hold", "x", "ajar", "y")
        self.assert_wrong(board, 2, "hold", "x", "open", "Y")
        self.assert_wrong(board, 1, "free", "x", "Y")
        self.assert_wrong(board, 1, "holders", "x", "Y")
        self.assert_wrong(board, 1, "add", "a", "ajar")
        with self.assertRaises(Lacks):
            board.hold("x", "open", "y")

    def test_what_is_handed_in_stays(self):
        board = hung_board()
        things = [["b", "a", "b"], {"b": ["b", "a"]}, [["b"], "a"], [], many_names(7)]
        ahead = copy.deepcopy(things)
        for thing in things:
            for call, wants in DOORS.items():
                for at in range(len(wants)):
                    handed = [FITTING[want][0] for want in wants]
                    handed[at] = thing
                    self.assert_wrong(board, at, call, *handed)
            self.assertEqual(things, ahead)


if __name__ == "__main__":
    unittest.main()
