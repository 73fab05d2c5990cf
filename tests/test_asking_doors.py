"""Points 3, 4 and 19: what reach, water and least refuse, in which order, and whose lists are whose."""

import copy
import itertools
import unittest

from brute import made_layout
from layouts import all_told, full_layout, small_layout
from samples import many_names, not_name_lists, not_stretches, strange_things
from stillmain.board import Board
from stillmain.errors import Lacks, NoPart, Wrong
from stillmain.layout import Layout
from stillmain.least import cost_of, least_lot, ways_to
from stillmain.reach import border_of, live_rooms, parts_of, side_of, way_to
from stillmain.water import settled, spilling

# What is wanted behind the layout: switches, drains, rooms are names, a stretch is rooms.
DOORS = {
    side_of: ("switches", "stretch"), parts_of: ("switches",), live_rooms: ("switches",),
    border_of: ("rooms",), way_to: ("switches", "stretch"),
    settled: ("switches", "drains", "rooms"), spilling: ("switches", "drains"),
    least_lot: ("switches", "stretch"), ways_to: ("switches", "stretch"), cost_of: ("switches",),
}

# Of the small layout: rooms p q r, lines a (of cost 0) b c d, drains u v w.
FITTING = {"switches": ["c"], "drains": ["v"], "rooms": ["r", "q"], "stretch": ["r"]}
LACKING = {
    "switches": ((["x"], "x"), (["a"], "a"), (["b", "a", "x"], "a"), (["d", "u"], "u"), (["p", "a"], "p"),
                 (["c", "b", "d", "zz", "a"], "zz")),
    "drains": ((["x"], "x"), (["a"], "a"), (["u", "r", "x"], "r"), (["w", "v", "u", "uu", "r"], "uu"),
               (["b", "u"], "b")),
    "rooms": ((["x"], "x"), (["a"], "a"), (["r", "u", "x"], "u"), (["q", "p", "r", "rr", "b"], "rr"),
              (["b", "r"], "b")),
}
LACKING["stretch"] = LACKING["rooms"]


def not_fitting(want):
    return not_stretches() if want == "stretch" else not_name_lists()


def not_layouts():
    return strange_things() + [Layout, Board(), Layout.rooms, small_layout().rooms, "layout", 0, 24]


class AskingTest(unittest.TestCase):
    def assert_refused(self, kind, field, kept, asked, *handed):
        """Asked twice it is refused alike, and what was handed in stays."""
        told = [all_told(thing) if type(thing) is Layout else None for thing in handed]
        for _ in range(2):
            with self.assertRaises(ValueError, msg=(asked, handed)) as caught:
                asked(*handed)
            self.assertIs(type(caught.exception), kind, (asked, handed))
            self.assertEqual(getattr(caught.exception, field), kept, (asked, handed))
            self.assertIs(type(getattr(caught.exception, field)), type(kept))
        self.assertEqual(
            [all_told(thing) if type(thing) is Layout else None for thing in handed], told)

    def assert_wrong(self, at, asked, *handed):
        self.assert_refused(Wrong, "at", at, asked, *handed)

    def assert_lacks(self, name, asked, *handed):
        self.assert_refused(Lacks, "name", name, asked, *handed)


class WrongTest(AskingTest):
    def test_no_layout(self):
        for asked, wants in DOORS.items():
            for thing in not_layouts():
                self.assert_wrong(0, asked, thing, *[FITTING[want] for want in wants])
                self.assert_wrong(0, asked, thing, *[["x"] for want in wants])
                self.assert_wrong(0, asked, thing, *[thing for want in wants])
            for wrong in (None, ["A"], many_names(61)):
                self.assert_wrong(0, asked, None, *[wrong for want in wants])

    def test_one_thing_wrong(self):
        for asked, wants in DOORS.items():
            for at, want in enumerate(wants):
                for thing in not_fitting(want):
                    for layout in (small_layout(), Layout()):
                        handed = [FITTING[other] for other in wants]
                        handed[at] = thing
                        self.assert_wrong(at + 1, asked, layout, *handed)

    def test_wrong_goes_ahead_of_all_else(self):
        # All that isn't wrong is lacking, or can't be parted.
        for asked, wants in DOORS.items():
            for at, want in enumerate(wants):
                for thing in (None, "a", ("c",), ["c", "c"], ["C"], [0], many_names(61)):
                    for other in (["x"], ["p"], ["a"], ["q", "b"]):
                        handed = [other for _ in wants]
                        handed[at] = thing
                        self.assert_wrong(at + 1, asked, small_layout(), *handed)

    def test_several_things_wrong(self):
        some = (None, True, 0, "c", ["c", "c"], ["C"], many_names(61), {})
        for asked, wants in DOORS.items():
            for many in range(2, len(wants) + 1):
                for places in itertools.combinations(range(len(wants)), many):
                    for things in itertools.product(some, repeat=many):
                        handed = [FITTING[want] for want in wants]
                        for at, thing in zip(places, things):
                            handed[at] = thing
                        self.assert_wrong(places[0] + 1, asked, small_layout(), *handed)

    def test_the_bounds_of_names_and_of_a_stretch(self):
        layout = full_layout()
        rooms = layout.rooms()
        self.assertEqual(side_of(layout, [], rooms), rooms)
        self.assertEqual(border_of(layout, []), [])
        for asked in (side_of, way_to, least_lot, ways_to):
            self.assert_wrong(2, asked, layout, [], [])
            self.assert_wrong(2, asked, layout, [], rooms + ["x"])
            self.assert_wrong(2, asked, layout, [], rooms[:3] + rooms[:1])
        # Sixty names are names, though there are never as many lines, drains or rooms.
        sixty = ["x" + name[1:] for name in many_names(60)]
        self.assert_lacks("x" + many_names(1)[0][1:], cost_of, layout, sixty)
        self.assert_lacks(sixty[0], border_of, layout, sixty)
        self.assert_lacks(sixty[0], parts_of, layout, sixty)
        self.assert_lacks(sixty[0], spilling, layout, [], sixty)
        self.assert_lacks(sixty[0], settled, layout, [], [], sixty)
        self.assert_wrong(1, cost_of, layout, sixty + ["y"])
        self.assert_wrong(1, border_of, layout, sixty + ["y"])
        self.assert_wrong(2, spilling, layout, [], sixty + ["y"])
        self.assert_wrong(3, settled, layout, [], [], sixty + ["y"])


class LacksTest(AskingTest):
    def test_the_first_that_is_lacking(self):
        for asked, wants in DOORS.items():
            for at, want in enumerate(wants):
                for names, name in LACKING[want]:
                    handed = [FITTING[other] for other in wants]
                    handed[at] = names
                    self.assert_lacks(name, asked, small_layout(), *handed)

    def test_their_order(self):
        for asked, wants in DOORS.items():
            for many in range(2, len(wants) + 1):
                for places in itertools.combinations(range(len(wants)), many):
                    for lacking in itertools.product(*[LACKING[wants[at]] for at in places]):
                        handed = [FITTING[want] for want in wants]
                        for at, (names, _) in zip(places, lacking):
                            handed[at] = names
                        self.assert_lacks(lacking[0][1], asked, small_layout(), *handed)

    def test_all_is_lacking_in_a_layout_of_nothing(self):
        for asked, wants in DOORS.items():
            handed = [["x"] if want == "stretch" else [] for want in wants]
            for at, want in enumerate(wants):
                lacking = list(handed)
                lacking[at] = ["y"]
                self.assert_lacks("y", asked, Layout(), *lacking)

    def test_a_line_that_was_taken_away(self):
        layout = small_layout()
        layout.take_line("c")
        layout.take_drain("v")
        for asked, wants in DOORS.items():
            if "switches" in wants:
                self.assert_lacks("c", asked, layout, *[FITTING[want] for want in wants])
        self.assert_lacks("v", spilling, layout, ["b"], ["u", "v"])

    def test_lacks_goes_ahead_of_no_part(self):
        layout = small_layout()
        for asked in (least_lot, ways_to):
            self.assert_refused(NoPart, "way", ["p"], asked, layout, [], ["p"])
            self.assert_refused(NoPart, "way", ["p", "a", "q", "c", "r"], asked, layout, ["c"], ["r"])
            self.assert_lacks("a", asked, layout, ["a"], ["p"])
            self.assert_lacks("x", asked, layout, ["c"], ["p", "x"])
            self.assert_lacks("x", asked, layout, ["c"], ["r", "x"])
            self.assert_lacks("a", asked, layout, ["c", "a"], ["x", "r"])


class ListsTest(AskingTest):
    def told_of(self, asked):
        """A fitting call, and what it tells."""
        layout = made_layout(
            ["p", "q", "r", "s"],
            [("a", "p", "q", 3), ("b", "q", "r", 2), ("c", "p", "r", 1), ("d", "r", "s", 1)],
            [("u", "p"), ("v", "q"), ("w", "r")], ["p"])
        names = {"switches": ["d"], "drains": ["w", "v"], "rooms": ["s", "q"], "stretch": ["r", "q"]}
        return [layout] + [list(names[want]) for want in DOORS[asked]]

    def test_what_is_handed_in_stays(self):
        for asked in DOORS:
            handed = self.told_of(asked)
            ahead = copy.deepcopy(handed[1:])
            told = all_told(handed[0])
            self.assertEqual(asked(*handed), asked(*handed))
            self.assertEqual(handed[1:], ahead)
            self.assertEqual(all_told(handed[0]), told)

    def test_what_is_handed_in_is_changed_behind_the_call(self):
        for asked in DOORS:
            handed = self.told_of(asked)
            told = asked(*handed)
            wanted = copy.deepcopy(told)
            for names in handed[1:]:
                names.clear()
                names.append("zzz")
            handed[0].take_line("a")
            self.assertEqual(told, wanted)
            self.assertEqual(asked(*self.told_of(asked)), wanted)

    def test_what_is_told_is_changed(self):
        for asked in DOORS:
            handed = self.told_of(asked)
            ahead = copy.deepcopy(handed[1:])
            told_of_it = all_told(handed[0])
            wanted = copy.deepcopy(asked(*handed))
            for at in range(3):
                self.spoil(asked(*handed), at)
                self.assertEqual(asked(*handed), wanted)
                self.assertEqual(handed[1:], ahead)
                self.assertEqual(all_told(handed[0]), told_of_it)

    def spoil(self, told, at):
        """Change a told list and all lists within it."""
        if isinstance(told, tuple):
            for thing in told:
                self.spoil(thing, at)
        if isinstance(told, list):
            for thing in told:
                self.spoil(thing, at)
            if at == 0:
                told.append("zzz")
            elif at == 1:
                told.reverse()
            else:
                told.clear()

    def test_a_list_is_told_that_is_not_the_one_handed_in(self):
        layout = small_layout()
        rooms = layout.rooms()
        for told in (side_of(layout, [], rooms), settled(layout, ["b", "d"], [], rooms),
                     live_rooms(layout, []), parts_of(layout, [])[0]):
            self.assertEqual(told, rooms)
            self.assertIsNot(told, rooms)
        drains = layout.drains()
        self.assertEqual(spilling(layout, [], drains), drains)
        self.assertIsNot(spilling(layout, [], drains), drains)
        parts = parts_of(layout, ["c"])
        parts[0].append("r")
        self.assertEqual(parts, [["p", "q", "r"], ["r"]])

    def test_the_lists_told_at_once_are_not_the_same(self):
        layout = made_layout(["p", "q"], [("a", "p", "q", 1), ("b", "p", "q", 1)], sources=["p"])
        lot, side = least_lot(layout, [], ["q"])
        side.append("x")
        self.assertEqual(lot, ["a", "b"])
        ways = ways_to(layout, [], ["q"])
        ways[0][1].clear()
        self.assertEqual(len(ways[1][1]), 3)


if __name__ == "__main__":
    unittest.main()
