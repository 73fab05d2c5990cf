"""Point 4 of a layout: what is refused with Wrong, ahead of all else."""

import copy
import itertools
import unittest

from layouts import all_told, full_layout, small_layout
from samples import not_costs, not_names
from stillmain.errors import Wrong
from stillmain.layout import Layout

NAME_DOORS = {
    "add_room": 1, "add_drain": 2, "add_source": 1, "take_room": 1, "take_line": 1,
    "take_drain": 1, "take_source": 1, "line": 1, "drain": 1, "lines_at": 1,
}

# Such as are refused for other things, too, and such as aren't.
FITTING_NAMES = ("a", "p", "u", "x")
FITTING_LINES = (
    ("e", "p", "q", 5), ("a", "p", "q", 5), ("u", "p", "q", 0), ("e", "x", "q", 5),
    ("e", "p", "x", 99), ("e", "x", "y", 5), ("a", "x", "y", 5),
)

A_FEW_WRONG = (None, True, 0, "", "A", "abcdefghi", "a\n", ["a"], [], {"a": "a"}, {}, ("p",))
A_FEW_NO_COST = (None, True, False, -1, 100, "", "5", "a", [5], [], {5: 5}, {}, (5,))


class DoorsTest(unittest.TestCase):
    def assert_wrong(self, layout, at, call, *handed):
        ahead = all_told(layout)
        with self.assertRaises(ValueError, msg=(call, handed)) as caught:
            getattr(layout, call)(*handed)
        self.assertIs(type(caught.exception), Wrong, (call, handed))
        self.assertEqual(caught.exception.at, at, (call, handed))
        self.assertIs(type(caught.exception.at), int)
        self.assertEqual(all_told(layout), ahead)

    def test_doors_of_one_name(self):
        for layout in (Layout(), small_layout(), full_layout()):
            for door, many in NAME_DOORS.items():
                for thing in not_names() if many == 1 else []:
                    self.assert_wrong(layout, 0, door, thing)

    def test_a_drain(self):
        for layout in (Layout(), small_layout(), full_layout()):
            for thing in not_names():
                for name in FITTING_NAMES:
                    self.assert_wrong(layout, 0, "add_drain", thing, name)
                    self.assert_wrong(layout, 1, "add_drain", name, thing)
                for other in A_FEW_WRONG:
                    self.assert_wrong(layout, 0, "add_drain", thing, other)

    def test_a_line_with_one_thing_wrong(self):
        layout = small_layout()
        for handed in FITTING_LINES:
            for at in range(3):
                for thing in not_names():
                    wrong = handed[:at] + (thing,) + handed[at + 1:]
                    self.assert_wrong(layout, at, "add_line", *wrong)
            for thing in not_costs():
                self.assert_wrong(layout, 3, "add_line", *handed[:3], thing)

    def test_a_line_with_one_thing_wrong_in_a_full_layout(self):
        layout = full_layout()
        for at in range(3):
            for thing in not_names():
                handed = ["e", "p", "q", 5]
                handed[at] = thing
                self.assert_wrong(layout, at, "add_line", *handed)
        for thing in not_costs():
            self.assert_wrong(layout, 3, "add_line", "e", "p", "q", thing)

    def test_a_line_with_several_things_wrong(self):
        layout = small_layout()
        for many in (2, 3, 4):
            for places in itertools.combinations(range(4), many):
                for thing, no_cost in itertools.product(A_FEW_WRONG, A_FEW_NO_COST):
                    handed = ["a", "p", "q", 5]
                    for at in places:
                        handed[at] = no_cost if at == 3 else thing
                    self.assert_wrong(layout, places[0], "add_line", *handed)

    def test_a_line_with_unlike_things_wrong(self):
        layout = small_layout()
        for first, second in itertools.product(A_FEW_WRONG, repeat=2):
            self.assert_wrong(layout, 0, "add_line", first, second, "q", 5)
            self.assert_wrong(layout, 0, "add_line", first, "p", second, 5)
            self.assert_wrong(layout, 1, "add_line", "e", first, second, 5)

    def test_a_line_with_the_other_end_like_the_one(self):
        for layout in (Layout(), small_layout(), full_layout()):
            # Where the room is there and where it isn't; where the line is there, too.
            for line, room in itertools.product(("e", "a", "u", "p"), ("p", "q", "x", "a")):
                self.assert_wrong(layout, 2, "add_line", line, room, room, 5)
                self.assert_wrong(layout, 2, "add_line", line, room, room, 0)
                for thing in A_FEW_NO_COST:
                    self.assert_wrong(layout, 2, "add_line", line, room, room, thing)
            for thing in A_FEW_WRONG:
                self.assert_wrong(layout, 0, "add_line", thing, "p", "p", 5)
                self.assert_wrong(layout, 1, "add_line", "e", thing, thing, 5)
                self.assert_wrong(layout, 0, "add_line", thing, thing, thing, thing)

    def test_ends_that_are_alike_but_not_the_same_text(self):
        layout = small_layout()
        layout.add_room("ab")
        self.assert_wrong(layout, 2, "add_line", "e", "".join(["a", "b"]), "".join(["a", "b"]), 5)

    def test_what_is_handed_in_stays(self):
        layout = small_layout()
        things = [["b", "a"], {"b": ["b", "a"]}, [["b"], "a"], []]
        ahead = copy.deepcopy(things)
        for thing in things:
            for door, many in NAME_DOORS.items():
                self.assert_wrong(layout, 0, door, *[thing] * many)
            self.assert_wrong(layout, 3, "add_line", "e", "p", "q", thing)
            self.assertEqual(things, ahead)


if __name__ == "__main__":
    unittest.main()
