"""Point 4 of a job: what is refused with Wrong, ahead of all else."""

import itertools
import unittest

from boards import all_told_of, full_board
from jobs import PHASES, job_board, job_in, told_of
from refusing import RefusingTest
from samples import many_names, not_name_lists, not_names, not_stretches, strange_things
from stillmain.board import Board
from stillmain.errors import NotNow, There, TooMany, Wrong
from stillmain.job import Job
from stillmain.layout import Layout

DOORS = {
    "begin": ("names", "names"), "sign_on": ("name",), "sign_off": ("name",),
    "hand_over": ("name", "name"), "copied": ("board",),
}
NOT_FITTING = {"names": not_name_lists, "name": not_names}


def not_boards():
    return strange_things() + [Board, Layout(), Board.jobs, job_board().jobs, job_in("by")[1], "board", 0]


class DoorsTest(RefusingTest):
    def assert_wrong(self, board, job, at, call, *handed):
        self.assert_refused(lambda: told_of(board, job), (Wrong, at), getattr(job, call), *handed)

    def assert_not_made(self, board, at, *handed):
        told = (lambda: all_told_of(board)) if board.jobs() else board.devices
        self.assert_refused(told, (Wrong, at), Job, *handed)


class MakingTest(DoorsTest):
    FITTING = (("jo", "ann"), ("bo", "jo"), (["p"], ["q", "r"]))

    def test_no_board(self):
        board = job_board()
        for thing in not_boards():
            self.assert_not_made(board, 0, thing, "jo", "ann", ["p"])
            self.assert_not_made(board, 0, thing, thing, thing, thing)
            self.assert_not_made(board, 0, thing, "JO", 7, [])

    def test_one_thing_wrong(self):
        board = job_board()
        for thing in not_names():
            self.assert_not_made(board, 1, board, thing, "ann", ["p"])
            self.assert_not_made(board, 2, board, "jo", thing, ["p"])
        for thing in not_stretches():
            self.assert_not_made(board, 3, board, "jo", "ann", thing)
        self.assertEqual(board.jobs(), ["al"])

    def test_several_things_wrong(self):
        some = (None, True, 0, "", "Ann", ["a", "a"], [], many_names(25), ("p",))
        board = job_board()
        for places in ((1, 2), (1, 3), (2, 3), (1, 2, 3)):
            for things in itertools.product(some, repeat=len(places)):
                handed = [board, "jo", "ann", ["p"]]
                for at, thing in zip(places, things):
                    handed[at] = thing
                self.assert_not_made(board, places[0], *handed)

    def test_wrong_goes_ahead_of_there_and_too_many(self):
        for board, name in ((job_board(), "al"), (full_board(), "x"), (full_board(), many_names(8)[0])):
            self.assert_not_made(board, 2, board, name, "Ann", ["p"])
            self.assert_not_made(board, 3, board, name, "ann", [])
            self.assert_not_made(board, 3, board, name, "ann", ["p", "p"])
        board = full_board()
        self.assert_refused(board.jobs, (TooMany, 8), Job, board, "x", "ann", ["p"])
        self.assert_refused(board.jobs, (There, board.jobs()[0]), Job, board, board.jobs()[0], "ann", ["p"])


class DeedsTest(DoorsTest):
    def fitting(self, board, call):
        return {"begin": [["a"], ["u"]], "sign_on": ["bo"], "sign_off": ["ann"],
                "hand_over": ["ann", "bo"], "copied": [board]}[call]

    def test_one_thing_wrong_in_each_phase(self):
        for phase in PHASES:
            board, job = job_in(phase)
            for call, wants in DOORS.items():
                for at, want in enumerate(wants):
                    things = not_boards() if want == "board" else NOT_FITTING[want]()
                    # In the phases in which nothing is let by anyway, some do.
                    for thing in things if phase in ("by", "given") else things[::7]:
                        handed = self.fitting(board, call)
                        handed[at] = thing
                        self.assert_wrong(board, job, at, call, *handed)

    def test_several_things_wrong(self):
        some = (None, True, 0, "", "Ann", ["a", "a"], ["A"], {}, ("a",))
        for phase in PHASES:
            board, job = job_in(phase)
            for one in some:
                for other in some:
                    self.assert_wrong(board, job, 0, "begin", one, other)
                    self.assert_wrong(board, job, 0, "hand_over", one, other)

    def test_a_drain_among_the_switches(self):
        for phase in PHASES:
            board, job = job_in(phase)
            for switches, drains in (
                    (["a"], ["a"]), (["u", "a"], ["a"]), (["a", "b", "c"], ["u", "c"]),
                    (["x"], ["x"]), (["x", "u"], ["u", "y"]), (["a", "b"], ["b", "a"])):
                self.assert_wrong(board, job, 1, "begin", switches, drains)
            self.assert_wrong(board, job, 0, "begin", ["a", "a"], ["a"])
            self.assert_wrong(board, job, 0, "begin", "a", ["a"])

    def test_lists_of_sixty_and_of_sixty_one(self):
        board, job = job_in("given")
        self.assert_refused(lambda: told_of(board, job), (NotNow, "jo"), job.begin, many_names(60), [])
        self.assert_refused(lambda: told_of(board, job), (NotNow, "jo"), job.begin, [], many_names(60))
        self.assert_wrong(board, job, 0, "begin", many_names(61), [])
        self.assert_wrong(board, job, 1, "begin", [], many_names(61))

    def test_wrong_goes_ahead_of_all_else(self):
        for phase in PHASES:
            board, job = job_in(phase)
            self.assert_wrong(board, job, 1, "begin", ["x"], ["U"])
            self.assert_wrong(board, job, 1, "hand_over", "x", "Ann")
            self.assert_wrong(board, job, 0, "sign_on", "Ann")
            self.assert_wrong(board, job, 0, "sign_off", "ann bo")
            self.assert_wrong(board, job, 0, "copied", None)


if __name__ == "__main__":
    unittest.main()
