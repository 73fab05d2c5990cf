"""Point 14: a copied layout is alike and goes on by itself."""

import unittest

from layouts import all_told, full_layout, small_layout
from stillmain.errors import InUse, Lacks, There, TooMany
from stillmain.layout import Layout

# Each is let by at the small layout.
DEEDS = (
    ("add_room", "s"), ("add_line", "e", "p", "r", 3), ("add_drain", "y", "q"),
    ("add_source", "r"), ("take_line", "b"), ("take_drain", "v"), ("take_source", "p"),
)


def do(layout, deed):
    getattr(layout, deed[0])(*deed[1:])


class CopiedTest(unittest.TestCase):
    def test_a_copy_is_alike(self):
        for layout in (Layout(), small_layout(), full_layout()):
            twin = layout.copied()
            self.assertIsInstance(twin, Layout)
            self.assertIsNot(twin, layout)
            self.assertEqual(all_told(twin), all_told(layout))

    def test_each_goes_on_by_itself(self):
        for deed in DEEDS:
            layout = small_layout()
            twin = layout.copied()
            ahead = all_told(layout)
            do(twin, deed)
            self.assertEqual(all_told(layout), ahead)
            changed = all_told(twin)
            self.assertNotEqual(changed, ahead)
            do(layout, deed)
            self.assertEqual(all_told(layout), changed)
            self.assertEqual(all_told(twin), changed)

    def test_the_first_goes_on_by_itself(self):
        for deed in DEEDS:
            layout = small_layout()
            twin = layout.copied()
            ahead = all_told(twin)
            do(layout, deed)
            self.assertEqual(all_told(twin), ahead)
            self.assertNotEqual(all_told(layout), ahead)

    def test_a_room_taken_away_in_one(self):
        layout = small_layout()
        layout.add_room("s")
        twin = layout.copied()
        layout.take_room("s")
        self.assertEqual(twin.rooms(), ["p", "q", "r", "s"])
        twin.add_source("s")
        self.assertEqual(layout.rooms(), ["p", "q", "r"])
        self.assertEqual(layout.sources(), ["p"])

    def test_copies_of_copies(self):
        layouts = [small_layout()]
        told = [all_told(layouts[0])]
        for deed in DEEDS:
            layouts.append(layouts[-1].copied())
            do(layouts[-1], deed)
            told.append(all_told(layouts[-1]))
        self.assertEqual([all_told(layout) for layout in layouts], told)
        # Not two of them are alike, so none shares with another one.
        for at, one in enumerate(told):
            self.assertNotIn(one, told[at + 1:])
        for at, layout in enumerate(layouts):
            layout.add_room("zz")
            self.assertEqual(["zz" in other.rooms() for other in layouts],
                             [True] * (at + 1) + [False] * (len(layouts) - at - 1))

    def test_several_copies_of_one(self):
        layout = small_layout()
        twins = [layout.copied() for _ in DEEDS]
        ahead = all_told(layout)
        for twin, deed in zip(twins, DEEDS):
            self.assertEqual(all_told(twin), ahead)
            do(twin, deed)
        self.assertEqual(all_told(layout), ahead)

    def test_a_copy_refuses_alike(self):
        twin = full_layout().copied()
        ahead = all_told(twin)
        rooms, lines, drains = twin.rooms(), twin.lines(), twin.drains()
        refused = (
            (TooMany, ("add_room", "x")), (There, ("add_room", rooms[0])),
            (TooMany, ("add_line", "x", rooms[0], rooms[1], 1)),
            (There, ("add_line", drains[0], rooms[0], rooms[1], 1)),
            (TooMany, ("add_drain", "x", rooms[0])), (There, ("add_drain", lines[0], rooms[0])),
            (There, ("add_source", twin.sources()[0])), (InUse, ("take_room", rooms[0])),
            (Lacks, ("take_line", "x")), (Lacks, ("take_drain", "x")), (Lacks, ("take_source", "x")),
        )
        for refusal, deed in refused:
            with self.assertRaises(refusal):
                do(twin, deed)
            self.assertEqual(all_told(twin), ahead)

    def test_two_new_layouts_know_nothing_of_one_another(self):
        one, other = Layout(), Layout()
        one.add_room("p")
        one.add_room("q")
        one.add_line("a", "p", "q", 1)
        one.add_drain("u", "p")
        one.add_source("p")
        self.assertEqual(all_told(other), all_told(Layout()))
        self.assertEqual(other.rooms(), [])


if __name__ == "__main__":
    unittest.main()
