"""Points 15 to 17: sides, parts, live rooms, borders, and the way to a stretch."""

import itertools
import random
import unittest

from brute import (
    chance_layout, ends_of, first_shortest_way, is_way, joined_with, made_layout, some_of,
    with_switch,
)
from layouts import full_layout, small_layout
from stillmain import reach
from stillmain.layout import Layout
from stillmain.reach import border_of, live_rooms, parts_of, side_of, way_to


def chain_layout():
    """p - q - r - s - t, with a line beside q - r that has no switch, and z by itself."""
    return made_layout(
        ["t", "q", "z", "s", "p", "r"],
        [("d", "s", "t", 4), ("a", "q", "p", 1), ("c", "r", "s", 3), ("b", "q", "r", 2),
         ("x", "r", "q", 0)],
        sources=["p"])


class InterfaceTest(unittest.TestCase):
    def test_each_is_defined_in_the_module(self):
        for name in ("side_of", "parts_of", "live_rooms", "border_of", "way_to"):
            self.assertEqual(getattr(reach, name).__module__, "stillmain.reach")
            self.assertEqual(getattr(reach, name).__name__, name)

    def test_what_is_told_is_of_pythons_own_kinds(self):
        layout = chain_layout()
        for told in (side_of(layout, [], ["p"]), live_rooms(layout, []), border_of(layout, ["q"]),
                     way_to(layout, [], ["t"]), *parts_of(layout, ["a"])):
            self.assertIs(type(told), list)
            self.assertTrue(told)
            self.assertEqual({type(name) for name in told}, {str})
        self.assertIs(type(parts_of(layout, [])), list)


class SideTest(unittest.TestCase):
    def test_none_shut(self):
        layout = chain_layout()
        for room in "pqrst":
            self.assertEqual(side_of(layout, [], [room]), ["p", "q", "r", "s", "t"])
        self.assertEqual(side_of(layout, [], ["z"]), ["z"])
        self.assertEqual(side_of(layout, [], ["z", "t"]), ["p", "q", "r", "s", "t", "z"])

    def test_some_shut(self):
        layout = chain_layout()
        self.assertEqual(side_of(layout, ["a"], ["p"]), ["p"])
        self.assertEqual(side_of(layout, ["a"], ["t"]), ["q", "r", "s", "t"])
        self.assertEqual(side_of(layout, ["c", "a"], ["r"]), ["q", "r"])
        self.assertEqual(side_of(layout, ["c", "a"], ["t", "p"]), ["p", "s", "t"])
        self.assertEqual(side_of(layout, ["d"], ["z", "t"]), ["t", "z"])

    def test_a_line_of_cost_0_always_leads(self):
        layout = chain_layout()
        self.assertEqual(side_of(layout, ["d", "b", "a", "c"], ["q"]), ["q", "r"])
        self.assertEqual(side_of(layout, ["b"], ["p"]), ["p", "q", "r", "s", "t"])

    def test_several_lines_between_two_rooms(self):
        layout = made_layout(["p", "q"], [("a", "p", "q", 1), ("b", "q", "p", 2), ("c", "p", "q", 99)])
        for shut in itertools.permutations("abc", 2):
            self.assertEqual(side_of(layout, list(shut), ["q"]), ["p", "q"])
        for shut in itertools.permutations("abc"):
            self.assertEqual(side_of(layout, list(shut), ["q"]), ["q"])
            self.assertEqual(parts_of(layout, list(shut)), [["p"], ["q"]])

    def test_a_stretch_of_all_rooms(self):
        layout = full_layout()
        self.assertEqual(side_of(layout, [], layout.rooms()), layout.rooms())
        self.assertEqual(side_of(layout, with_switch(layout), layout.rooms()[::-1]), layout.rooms())

    def test_rooms_without_any_line(self):
        layout = made_layout(["q", "p", "r"], [], sources=["q"])
        self.assertEqual(side_of(layout, [], ["r"]), ["r"])
        self.assertEqual(side_of(layout, [], ["r", "p"]), ["p", "r"])
        self.assertEqual(parts_of(layout, []), [["p"], ["q"], ["r"]])
        self.assertEqual(live_rooms(layout, []), ["q"])
        self.assertEqual(border_of(layout, ["p", "q"]), [])
        self.assertEqual(way_to(layout, [], ["p", "q"]), ["q"])
        self.assertIsNone(way_to(layout, [], ["p", "r"]))

    def test_a_line_called_like_a_room(self):
        layout = made_layout(["p", "q", "r"], [("r", "p", "q", 5), ("p", "q", "r", 5)], sources=["p"])
        self.assertEqual(side_of(layout, ["r"], ["r"]), ["q", "r"])
        self.assertEqual(border_of(layout, ["r"]), ["p"])
        self.assertEqual(way_to(layout, [], ["r"]), ["p", "r", "q", "p", "r"])


class PartsTest(unittest.TestCase):
    def test_by_their_first_rooms_each_sorted(self):
        layout = chain_layout()
        self.assertEqual(parts_of(layout, []), [["p", "q", "r", "s", "t"], ["z"]])
        self.assertEqual(parts_of(layout, ["c"]), [["p", "q", "r"], ["s", "t"], ["z"]])
        self.assertEqual(parts_of(layout, ["d", "a"]), [["p"], ["q", "r", "s"], ["t"], ["z"]])

    def test_parts_whose_rooms_are_interlaced(self):
        layout = made_layout("dacbe", [("x", "d", "a", 1), ("y", "e", "b", 1)])
        self.assertEqual(parts_of(layout, []), [["a", "d"], ["b", "e"], ["c"]])
        self.assertEqual(parts_of(layout, ["y", "x"]), [["a"], ["b"], ["c"], ["d"], ["e"]])

    def test_a_layout_of_nothing(self):
        self.assertEqual(parts_of(Layout(), []), [])
        self.assertEqual(live_rooms(Layout(), []), [])
        self.assertEqual(border_of(Layout(), []), [])


class LiveTest(unittest.TestCase):
    def test_with_some_shut(self):
        layout = chain_layout()
        self.assertEqual(live_rooms(layout, []), ["p", "q", "r", "s", "t"])
        self.assertEqual(live_rooms(layout, ["c"]), ["p", "q", "r"])
        self.assertEqual(live_rooms(layout, ["d", "a"]), ["p"])

    def test_of_several_sources(self):
        layout = chain_layout()
        layout.add_source("t")
        self.assertEqual(live_rooms(layout, ["d", "a"]), ["p", "t"])
        self.assertEqual(live_rooms(layout, ["a"]), ["p", "q", "r", "s", "t"])

    def test_no_source(self):
        layout = chain_layout()
        layout.take_source("p")
        self.assertEqual(live_rooms(layout, []), [])
        self.assertEqual(live_rooms(layout, ["a"]), [])

    def test_all_rooms_sources(self):
        layout = full_layout()
        for room in layout.rooms():
            if room not in layout.sources():
                layout.add_source(room)
        self.assertEqual(live_rooms(layout, []), layout.rooms())
        self.assertEqual(live_rooms(layout, with_switch(layout)), layout.rooms())


class BorderTest(unittest.TestCase):
    def test_just_one_end_among_the_rooms(self):
        layout = chain_layout()
        self.assertEqual(border_of(layout, ["p"]), ["a"])
        self.assertEqual(border_of(layout, ["q"]), ["a", "b", "x"])
        # Both ends of a are among these, and none of d.
        self.assertEqual(border_of(layout, ["q", "p"]), ["b", "x"])
        self.assertEqual(border_of(layout, ["r", "q"]), ["a", "c"])
        self.assertEqual(border_of(layout, ["t", "p"]), ["a", "d"])
        self.assertEqual(border_of(layout, ["z"]), [])

    def test_of_no_rooms_and_of_all(self):
        for layout in (chain_layout(), small_layout(), full_layout()):
            self.assertEqual(border_of(layout, []), [])
            self.assertEqual(border_of(layout, layout.rooms()), [])
            self.assertEqual(border_of(layout, layout.rooms()[::-1]), [])


class WayTest(unittest.TestCase):
    def test_the_fewest_lines(self):
        layout = made_layout(
            ["p", "q", "r", "s"],
            [("a", "p", "q", 1), ("b", "q", "r", 1), ("c", "r", "s", 1), ("z", "s", "p", 9)],
            sources=["p"])
        self.assertEqual(way_to(layout, [], ["s"]), ["p", "z", "s"])
        self.assertEqual(way_to(layout, [], ["r"]), ["p", "a", "q", "b", "r"])
        self.assertEqual(way_to(layout, ["z"], ["s"]), ["p", "a", "q", "b", "r", "c", "s"])
        self.assertEqual(way_to(layout, [], ["s", "q"]), ["p", "a", "q"])
        self.assertIsNone(way_to(layout, ["z", "a"], ["s", "q", "r"]))

    def test_a_source_within_the_stretch(self):
        layout = made_layout(["p", "q", "r"], [("a", "p", "q", 1)], sources=["r", "q"])
        self.assertEqual(way_to(layout, [], ["q"]), ["q"])
        self.assertEqual(way_to(layout, [], ["r", "q"]), ["q"])
        self.assertEqual(way_to(layout, [], ["r", "p"]), ["r"])
        self.assertEqual(way_to(layout, ["a"], ["r", "q", "p"]), ["q"])

    def test_none_where_there_is_none(self):
        layout = chain_layout()
        self.assertIsNone(way_to(layout, [], ["z"]))
        self.assertIsNone(way_to(layout, ["d"], ["t", "z"]))
        layout.take_source("p")
        self.assertIsNone(way_to(layout, [], ["p", "q", "r", "s", "t", "z"]))

    def test_the_first_by_the_first_source(self):
        layout = made_layout(
            ["s", "q", "p"], [("a", "q", "s", 1), ("z", "p", "s", 1)], sources=["q", "p"])
        self.assertEqual(way_to(layout, [], ["s"]), ["p", "z", "s"])

    def test_the_first_by_the_first_line(self):
        # Between the same rooms, and to unlike ones: the line comes ahead of the room.
        layout = made_layout(
            ["p", "q", "r"],
            [("c", "p", "q", 1), ("b", "q", "p", 1), ("a", "p", "r", 1)], sources=["p"])
        self.assertEqual(way_to(layout, [], ["q"]), ["p", "b", "q"])
        self.assertEqual(way_to(layout, ["b"], ["q"]), ["p", "c", "q"])
        self.assertEqual(way_to(layout, [], ["r", "q"]), ["p", "a", "r"])
        self.assertEqual(way_to(layout, ["a"], ["r", "q"]), ["p", "b", "q"])

    def test_the_first_by_its_beginning_not_by_its_end(self):
        layout = made_layout(
            ["p", "x", "y", "s", "t"],
            [("a", "p", "y", 1), ("b", "p", "x", 1), ("z", "y", "t", 1), ("c", "x", "s", 1),
             ("d", "x", "t", 1)],
            sources=["p"])
        self.assertEqual(way_to(layout, [], ["t"]), ["p", "a", "y", "z", "t"])
        self.assertEqual(way_to(layout, [], ["s", "t"]), ["p", "a", "y", "z", "t"])
        self.assertEqual(way_to(layout, ["a"], ["t", "s"]), ["p", "b", "x", "c", "s"])

    def test_names_are_compared_as_texts(self):
        layout = made_layout(
            ["p", "q"], [("b", "p", "q", 1), ("ab", "p", "q", 1), ("aab", "p", "q", 1)],
            sources=["p"])
        self.assertEqual(way_to(layout, [], ["q"]), ["p", "aab", "q"])
        self.assertEqual(way_to(layout, ["aab"], ["q"]), ["p", "ab", "q"])

    def test_a_short_way_from_a_late_source(self):
        layout = made_layout(
            ["p", "q", "r", "s"], [("a", "p", "q", 1), ("b", "q", "s", 1), ("c", "r", "s", 1)],
            sources=["p", "r"])
        self.assertEqual(way_to(layout, [], ["s"]), ["r", "c", "s"])
        self.assertEqual(way_to(layout, ["c"], ["s"]), ["p", "a", "q", "b", "s"])

    def test_a_line_of_cost_0_always_leads(self):
        layout = chain_layout()
        self.assertEqual(way_to(layout, ["b"], ["r"]), ["p", "a", "q", "x", "r"])
        self.assertEqual(way_to(layout, [], ["r"]), ["p", "a", "q", "b", "r"])


class ChanceTest(unittest.TestCase):
    def test_beside_all_ways_tried(self):
        chance = random.Random(15)
        for _ in range(1200):
            layout = chance_layout(
                chance, chance.randint(1, 6), chance.randint(0, 8), 0, chance.randint(0, 3))
            shut = some_of(chance, with_switch(layout))
            rooms = some_of(chance, layout.rooms()) or layout.rooms()
            self.assert_told(layout, shut, rooms)

    def test_beside_all_joined_in_large_layouts(self):
        chance = random.Random(16)
        for _ in range(150):
            layout = chance_layout(chance, 24, 40, 0, chance.randint(0, 24))
            shut = some_of(chance, with_switch(layout))
            rooms = chance.sample(layout.rooms(), chance.randint(1, 24))
            self.assert_joined(layout, shut, rooms)
            way = way_to(layout, shut, rooms)
            live = joined_with(layout, shut, layout.sources())
            self.assertEqual(way is None, not set(live) & set(rooms))
            if way is not None:
                self.assertTrue(is_way(layout, way, shut))
                self.assertIn(way[0], layout.sources())
                self.assertIn(way[-1], rooms)

    def assert_told(self, layout, shut, rooms):
        self.assert_joined(layout, shut, rooms)
        self.assertEqual(way_to(layout, shut, rooms), first_shortest_way(layout, shut, rooms))

    def assert_joined(self, layout, shut, rooms):
        self.assertEqual(side_of(layout, shut, rooms), joined_with(layout, shut, rooms))
        self.assertEqual(live_rooms(layout, shut), joined_with(layout, shut, layout.sources()))
        parts = {tuple(joined_with(layout, shut, [room])) for room in layout.rooms()}
        self.assertEqual(parts_of(layout, shut), [list(part) for part in sorted(parts)])
        border = [line for line, ends in sorted(ends_of(layout).items())
                  if len([end for end in ends if end in rooms]) == 1]
        self.assertEqual(border_of(layout, rooms), border)

    def test_the_shut_in_any_order(self):
        layout = chain_layout()
        layout.add_source("z")
        for many in range(5):
            for lines in itertools.combinations("abcd", many):
                told = [
                    (side_of(layout, list(shut), ["r", "t"]), parts_of(layout, list(shut)),
                     live_rooms(layout, list(shut)), way_to(layout, list(shut), ["r", "t"]))
                    for shut in itertools.permutations(lines)]
                self.assertEqual(told, [told[0]] * len(told))

    def test_the_rooms_in_any_order(self):
        layout = chain_layout()
        for rooms in itertools.permutations("tsz"):
            self.assertEqual(side_of(layout, ["c"], list(rooms)), ["s", "t", "z"])
            self.assertEqual(border_of(layout, list(rooms)), ["c"])
            self.assertEqual(way_to(layout, [], list(rooms)), ["p", "a", "q", "b", "r", "c", "s"])


if __name__ == "__main__":
    unittest.main()
