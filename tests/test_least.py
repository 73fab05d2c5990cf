"""Points 20 and 22: the least lot and its side, where there is none, and the cost of names."""

import itertools
import random
import unittest

from brute import (
    chance_layout, first_shortest_way, joined_with, least_by_trying, made_layout, some_of,
    with_switch,
)
from layouts import full_layout, small_layout
from stillmain import least
from stillmain.errors import Lacks, NoPart
from stillmain.layout import Layout
from stillmain.least import cost_of, least_lot, ways_to
from stillmain.reach import border_of, side_of


def forked_layout():
    """p (a source) by two lines to q and one to r; both on to s, and s on to t."""
    return made_layout(
        ["t", "s", "r", "q", "p"],
        [("e", "s", "r", 5), ("a", "p", "q", 1), ("b", "q", "p", 2), ("c", "p", "r", 4),
         ("d", "q", "s", 9), ("f", "s", "t", 8)],
        sources=["p"])


class InterfaceTest(unittest.TestCase):
    def test_each_is_defined_in_the_module(self):
        for name in ("least_lot", "ways_to", "cost_of"):
            self.assertEqual(getattr(least, name).__module__, "stillmain.least")
            self.assertEqual(getattr(least, name).__name__, name)

    def test_what_is_told_is_of_pythons_own_kinds(self):
        layout = forked_layout()
        told = least_lot(layout, [], ["t"])
        self.assertIs(type(told), tuple)
        self.assertEqual([type(part) for part in told], [list, list])
        self.assertEqual({type(name) for part in told for name in part}, {str})
        self.assertIs(type(ways_to(layout, [], ["t"])), list)
        for way in ways_to(layout, [], ["t"]):
            self.assertIs(type(way), tuple)
            self.assertEqual([type(part) for part in way], [int, list])
            self.assertEqual({type(name) for name in way[1]}, {str})
        self.assertIs(type(cost_of(layout, ["a"])), int)
        self.assertIs(type(cost_of(layout, [])), int)


class LeastLotTest(unittest.TestCase):
    def test_the_cheapest(self):
        layout = forked_layout()
        self.assertEqual(least_lot(layout, [], ["t"]), (["a", "b", "c"], ["q", "r", "s", "t"]))
        self.assertEqual(least_lot(layout, [], ["q"]), (["a", "b", "c"], ["q", "r", "s", "t"]))
        self.assertEqual(least_lot(layout, [], ["r"]), (["a", "b", "c"], ["q", "r", "s", "t"]))
        self.assertEqual(least_lot(layout, [], ["r", "t"]), (["a", "b", "c"], ["q", "r", "s", "t"]))

    def test_of_two_alike_the_one_with_the_smaller_side(self):
        layout = made_layout(
            ["p", "q", "r", "s"], [("a", "p", "q", 5), ("b", "q", "r", 5), ("c", "r", "s", 5)],
            sources=["p"])
        self.assertEqual(least_lot(layout, [], ["s"]), (["c"], ["s"]))
        self.assertEqual(least_lot(layout, [], ["r"]), (["b"], ["r", "s"]))
        self.assertEqual(least_lot(layout, ["c"], ["s"]), (["b"], ["r", "s"]))
        self.assertEqual(least_lot(layout, ["b", "c"], ["s"]), (["a"], ["q", "r", "s"]))

    def test_sources_on_both_sides(self):
        layout = made_layout(
            ["p", "q", "r", "s"], [("a", "p", "q", 5), ("b", "q", "r", 3), ("c", "r", "s", 4)],
            sources=["p", "s"])
        self.assertEqual(least_lot(layout, [], ["q"]), (["a", "b"], ["q"]))
        self.assertEqual(least_lot(layout, [], ["r"]), (["b", "c"], ["r"]))
        self.assertEqual(least_lot(layout, [], ["r", "q"]), (["a", "c"], ["q", "r"]))
        self.assertEqual(least_lot(layout, ["b"], ["q"]), (["a", "c"], ["q", "r"]))

    def test_barred_lines(self):
        layout = forked_layout()
        self.assertEqual(least_lot(layout, ["b"], ["t"]), (["f"], ["t"]))
        self.assertEqual(least_lot(layout, ["f", "b"], ["t"]), (["c", "d"], ["r", "s", "t"]))
        self.assertEqual(least_lot(layout, ["c", "f"], ["t"]), (["a", "b", "e"], ["q", "s", "t"]))
        self.assertEqual(least_lot(layout, ["a", "c", "f"], ["t"]), (["d", "e"], ["s", "t"]))

    def test_a_line_of_cost_0_is_never_shut(self):
        layout = made_layout(
            ["p", "q", "r", "s"], [("a", "p", "q", 50), ("b", "q", "r", 0), ("c", "r", "s", 49)],
            sources=["p"])
        self.assertEqual(least_lot(layout, [], ["s"]), (["c"], ["s"]))
        self.assertEqual(least_lot(layout, [], ["r"]), (["a"], ["q", "r", "s"]))
        self.assertEqual(least_lot(layout, ["c"], ["s"]), (["a"], ["q", "r", "s"]))

    def test_several_lines_between_the_same_two_rooms(self):
        layout = made_layout(
            ["p", "q", "r"],
            [("c", "p", "q", 1), ("b", "q", "p", 2), ("a", "p", "q", 3), ("d", "q", "r", 6),
             ("e", "r", "q", 1)], sources=["p"])
        self.assertEqual(least_lot(layout, [], ["q"]), (["a", "b", "c"], ["q", "r"]))
        self.assertEqual(least_lot(layout, [], ["r"]), (["a", "b", "c"], ["q", "r"]))
        layout.take_line("e")
        self.assertEqual(least_lot(layout, [], ["r"]), (["d"], ["r"]))

    def test_an_empty_lot_where_no_way_leads(self):
        layout = made_layout(
            ["z", "y", "x", "p", "q"], [("a", "p", "q", 3), ("b", "y", "x", 1), ("c", "z", "y", 0)],
            sources=["q"])
        self.assertEqual(least_lot(layout, [], ["x"]), ([], ["x", "y", "z"]))
        self.assertEqual(least_lot(layout, ["b", "a"], ["y"]), ([], ["x", "y", "z"]))
        self.assertEqual(ways_to(layout, [], ["x"]), [])
        self.assertEqual(ways_to(layout, ["b"], ["x", "z"]), [])
        layout.take_source("q")
        self.assertEqual(least_lot(layout, [], ["q", "x"]), ([], ["p", "q", "x", "y", "z"]))
        self.assertEqual(least_lot(layout, [], layout.rooms()), ([], layout.rooms()))
        self.assertEqual(ways_to(layout, [], layout.rooms()), [])

    def test_an_empty_lot_of_a_stretch_beside_one_that_is_joined(self):
        layout = made_layout(
            ["z", "y", "p", "q"], [("a", "p", "q", 3), ("b", "y", "z", 1)], sources=["q"])
        self.assertEqual(least_lot(layout, [], ["p", "z"]), (["a"], ["p", "y", "z"]))

    def test_costs_from_1_to_99(self):
        for one, other in ((1, 99), (99, 1), (98, 99), (99, 98), (1, 1), (99, 99), (50, 49)):
            layout = made_layout(
                ["p", "q", "r"], [("a", "p", "q", one), ("b", "q", "r", other)], sources=["p"])
            wanted = (["b"], ["r"]) if other <= one else (["a"], ["q", "r"])
            self.assertEqual(least_lot(layout, [], ["r"]), wanted)
            self.assertEqual(cost_of(layout, wanted[0]), min(one, other))
            self.assertEqual([amount for amount, _ in ways_to(layout, [], ["r"])], [min(one, other)])

    def test_many_cheap_lines_beside_a_dear_one(self):
        lines = [("n" + sign, "p", "q", 33) for sign in "abc"]
        for cost, wanted in ((99, (["z"], ["r"])), (98, (["z"], ["r"]))):
            layout = made_layout(["p", "q", "r"], lines + [("z", "q", "r", cost)], sources=["p"])
            self.assertEqual(least_lot(layout, [], ["r"]), wanted)
        layout = made_layout(["p", "q", "r"], lines[1:] + [("z", "q", "r", 99)], sources=["p"])
        self.assertEqual(least_lot(layout, [], ["r"]), (["nb", "nc"], ["q", "r"]))

    def test_what_was_sent_is_sent_another_way(self):
        # The shortest way goes along m, and the most is sent only where m is left again.
        layout = made_layout(
            ["p", "a", "b", "c", "d", "s"],
            [("x", "p", "a", 1), ("m", "a", "b", 1), ("y", "b", "s", 1), ("u", "a", "c", 1),
             ("uu", "c", "s", 1), ("v", "p", "d", 1), ("vv", "d", "b", 1)], sources=["p"])
        self.assertEqual(least_lot(layout, [], ["s"]), (["uu", "y"], ["s"]))
        self.assertEqual(len(ways_to(layout, [], ["s"])), 2)


class NoPartTest(unittest.TestCase):
    def assert_no_part(self, layout, barred, rooms, way):
        for asked in (least_lot, ways_to, least_lot, ways_to):
            with self.assertRaises(ValueError) as caught:
                asked(layout, barred, rooms)
            self.assertIs(type(caught.exception), NoPart)
            self.assertEqual(caught.exception.way, way)
            self.assertIs(type(caught.exception.way), list)
            # The way is the asker's own.
            caught.exception.way.reverse()
            caught.exception.way.append("zzz")

    def test_a_source_in_the_stretch(self):
        layout = forked_layout()
        self.assert_no_part(layout, [], ["p"], ["p"])
        self.assert_no_part(layout, [], ["t", "p"], ["p"])
        layout.add_source("q")
        self.assert_no_part(layout, [], ["q", "p"], ["p"])
        self.assert_no_part(layout, ["a"], ["q", "s"], ["q"])

    def test_along_lines_of_cost_0(self):
        layout = made_layout(
            ["p", "q", "r"], [("b", "p", "q", 0), ("a", "p", "q", 5), ("c", "r", "q", 0)],
            sources=["p"])
        self.assert_no_part(layout, [], ["q"], ["p", "b", "q"])
        self.assert_no_part(layout, [], ["r"], ["p", "b", "q", "c", "r"])
        self.assert_no_part(layout, ["a"], ["r"], ["p", "a", "q", "c", "r"])

    def test_along_barred_lines(self):
        layout = forked_layout()
        self.assert_no_part(layout, ["a"], ["q"], ["p", "a", "q"])
        self.assert_no_part(layout, ["b", "a"], ["q"], ["p", "a", "q"])
        self.assert_no_part(layout, ["d", "b"], ["s"], ["p", "b", "q", "d", "s"])
        self.assert_no_part(layout, ["b", "d", "c", "e"], ["s"], ["p", "b", "q", "d", "s"])
        self.assert_no_part(layout, list("fedcba"), ["t"], ["p", "a", "q", "d", "s", "f", "t"])

    def test_a_shorter_way_along_lines_that_can_be_shut_is_none(self):
        layout = made_layout(
            ["p", "q", "r"], [("a", "p", "r", 1), ("b", "p", "q", 0), ("c", "q", "r", 7)],
            sources=["p"])
        self.assert_no_part(layout, ["c"], ["r"], ["p", "b", "q", "c", "r"])
        self.assertEqual(least_lot(layout, [], ["r"]), (["a", "c"], ["r"]))


class CostTest(unittest.TestCase):
    def test_the_costs_of_names(self):
        layout = forked_layout()
        self.assertEqual(cost_of(layout, []), 0)
        self.assertEqual(cost_of(layout, ["a"]), 1)
        self.assertEqual(cost_of(layout, ["f", "a", "d"]), 18)
        self.assertEqual(cost_of(layout, list("fedcba")), 29)
        self.assertEqual(cost_of(Layout(), []), 0)

    def test_of_all_lines(self):
        layout = full_layout()
        lines = with_switch(layout)
        self.assertEqual(len(lines), 39)
        self.assertEqual(cost_of(layout, lines), sum(range(40)))
        self.assertEqual(cost_of(layout, lines[::-1]), sum(range(40)))

    def test_the_highest_cost(self):
        layout = made_layout(["p", "q"], [("a" + x + y, "p", "q", 99) for x in "abcde" for y in "abcdefgh"])
        self.assertEqual(cost_of(layout, layout.lines()), 3960)

    def test_lacks_the_first_that_is_no_line_with_a_switch(self):
        layout = small_layout()
        for switches, name in ((["a"], "a"), (["b", "a", "x"], "a"), (["x", "a"], "x"), (["p"], "p"),
                               (["b", "u"], "u"), (["c", "b", "d", "zz", "yy"], "zz")):
            for _ in range(2):
                with self.assertRaises(ValueError) as caught:
                    cost_of(layout, switches)
                self.assertIs(type(caught.exception), Lacks)
                self.assertEqual(caught.exception.name, name)


class ChanceTest(unittest.TestCase):
    def assert_least(self, layout, barred, rooms):
        wanted = least_by_trying(layout, barred, rooms)
        if wanted is None:
            free = [line for line in with_switch(layout) if line not in barred]
            with self.assertRaises(NoPart) as caught:
                least_lot(layout, barred, rooms)
            self.assertEqual(caught.exception.way, first_shortest_way(layout, free, rooms))
        else:
            self.assertEqual(least_lot(layout, barred, rooms), wanted)
        return wanted is not None

    def test_beside_all_lots_tried(self):
        chance = random.Random(20)
        parted = 0
        for _ in range(1500):
            layout = chance_layout(
                chance, chance.randint(2, 6), chance.randint(0, 7), 0, chance.randint(0, 2),
                chance.choice(((1,), (0, 1, 2, 3), (1, 2, 3), (1, 98, 99), range(100), (0, 1, 1))))
            barred = some_of(chance, with_switch(layout)) if chance.random() < 0.3 else []
            rooms = chance.sample(layout.rooms(), chance.choice((1, 1, 1, 2)))
            parted += self.assert_least(layout, barred, rooms)
        self.assertGreater(parted, 700)

    def test_beside_all_lots_tried_with_more_lines(self):
        chance = random.Random(21)
        for _ in range(30):
            layout = chance_layout(chance, 6, 11, 0, 1, (1, 2, 3))
            self.assert_least(layout, [], [chance.choice(layout.rooms())])

    def test_no_room_of_the_side_can_be_left_out_in_large_layouts(self):
        chance = random.Random(22)
        for _ in range(25):
            layout = chance_layout(chance, 24, 40, 0, 2, (1, 1, 2, 3, 99))
            rooms = chance.sample([room for room in layout.rooms() if room not in layout.sources()], 2)
            lot, side = least_lot(layout, [], rooms)
            self.assertEqual(side, joined_with(layout, lot, rooms))
            self.assertEqual(lot, border_of(layout, side))
            self.assertEqual(side, side_of(layout, lot, rooms))
            self.assertFalse(set(side) & set(layout.sources()))
            for room in side:
                if room not in rooms:
                    layout.add_source(room)
                    dearer, _ = least_lot(layout, [], rooms)
                    self.assertGreater(cost_of(layout, dearer), cost_of(layout, lot))
                    layout.take_source(room)

    def test_in_any_order(self):
        layout = forked_layout()
        for barred, rooms in itertools.product(
                itertools.permutations("acf"), itertools.permutations("ts")):
            self.assertEqual(
                least_lot(layout, list(barred), list(rooms)), (["d", "e"], ["s", "t"]))
        for switches in itertools.permutations("abcd"):
            self.assertEqual(cost_of(layout, list(switches)), 16)


if __name__ == "__main__":
    unittest.main()
