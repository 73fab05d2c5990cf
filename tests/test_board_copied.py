"""Point 28: a copied board is alike and goes on by itself."""

import unittest

from boards import all_told_of, full_board, hung_board, small_board
from stillmain.board import Board
from stillmain.errors import Held, InUse, Lacks, Stuck, There, TooMany

# Each is let by at the hung board, and changes it.
DEEDS = (
    ("add", "c", "shut"), ("take", "b"), ("crew", "jo", ["eve"]), ("crew", "new", ["eve", "ann"]),
    ("turn", "b", "shut"), ("stick", "s"), ("mend", "u"), ("hold", "b", "shut", "al"),
    ("hold", "a", "open", "jo"), ("free", "s", "al"), ("free", "a", "jo"), ("hold", "u", "open", "zed"),
)


def do(board, deed):
    getattr(board, deed[0])(*deed[1:])


class CopiedTest(unittest.TestCase):
    def test_a_copy_is_alike(self):
        for board in (Board(), small_board(), hung_board(), full_board()):
            twin = board.copied()
            self.assertIsInstance(twin, Board)
            self.assertIsNot(twin, board)
            self.assertEqual(all_told_of(twin), all_told_of(board))

    def test_each_goes_on_by_itself(self):
        for deed in DEEDS:
            board = hung_board()
            twin = board.copied()
            ahead = all_told_of(board)
            do(twin, deed)
            self.assertEqual(all_told_of(board), ahead)
            changed = all_told_of(twin)
            self.assertNotEqual(changed, ahead)
            do(board, deed)
            self.assertEqual(all_told_of(board), changed)
            self.assertEqual(all_told_of(twin), changed)

    def test_the_first_goes_on_by_itself(self):
        for deed in DEEDS:
            board = hung_board()
            twin = board.copied()
            ahead = all_told_of(twin)
            do(board, deed)
            self.assertEqual(all_told_of(twin), ahead)
            self.assertNotEqual(all_told_of(board), ahead)

    def test_a_job_leaves_one(self):
        board = small_board()
        twin = board.copied()
        twin.leave("jo")
        self.assertEqual(twin.jobs(), ["al", "zed"])
        self.assertEqual(board.jobs(), ["al", "jo", "zed"])
        board.hold("b", "shut", "jo")
        self.assertEqual(board.tags("b"), [("jo", "ann"), ("jo", "bo")])
        self.assertEqual(twin.tags("b"), [])

    def test_copies_of_copies(self):
        boards = [hung_board()]
        told = [all_told_of(boards[0])]
        for deed in DEEDS[2:]:
            boards.append(boards[-1].copied())
            do(boards[-1], deed)
            told.append(all_told_of(boards[-1]))
        self.assertEqual([all_told_of(board) for board in boards], told)
        for at, one in enumerate(told):
            self.assertNotIn(one, told[at + 1:])

    def test_a_copy_refuses_alike(self):
        twin = full_board().copied()
        ahead = all_told_of(twin)
        devices, jobs = twin.devices(), twin.jobs()
        held = [device for device in devices if twin.tags(device)]
        refused = (
            (TooMany, ("add", "x", "open")), (There, ("add", devices[0], "open")),
            (TooMany, ("crew", "x", ["ann"])), (InUse, ("leave", jobs[0])),
            (Held, ("take", held[0])), (Held, ("turn", held[1], "open")),
            (Lacks, ("stick", "x")), (Lacks, ("leave", "x")), (Lacks, ("free", devices[0], "x")),
        )
        for refusal, deed in refused:
            with self.assertRaises(refusal):
                do(twin, deed)
            self.assertEqual(all_told_of(twin), ahead)
        with self.assertRaises(Stuck):
            hung_board().copied().free("u", "jo")

    def test_two_new_boards_know_nothing_of_one_another(self):
        one, other = Board(), Board()
        one.add("a", "open")
        one.crew("jo", ["ann"])
        one.hold("a", "shut", "jo")
        self.assertEqual(all_told_of(other), all_told_of(Board()))
        self.assertEqual((other.devices(), other.jobs()), ([], []))


if __name__ == "__main__":
    unittest.main()
