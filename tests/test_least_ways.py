"""Point 21: the ways that are told beside the least lot, each walked."""

import random
import sys
import unittest

from brute import chance_layout, is_way, made_layout, some_of, with_switch
from samples import many_names
from stillmain.errors import NoPart
from stillmain.least import cost_of, least_lot, ways_to


def grid_layout(costs, sources):
    """The 24 rooms of four rows of six, with 38 lines between neighbours; costs in turn."""
    names = many_names(40)
    ends = [(row * 6 + at, row * 6 + at + 1) for row in range(4) for at in range(5)]
    ends += [(row * 6 + at, row * 6 + at + 6) for row in range(3) for at in range(6)]
    return made_layout(
        names[:24],
        [(names[at], names[one], names[other], costs[at % len(costs)])
         for at, (one, other) in enumerate(ends)],
        sources=[names[at] for at in sources])


class WaysTest(unittest.TestCase):
    def assert_ways(self, layout, barred, rooms):
        """What point 21 says of the ways; tell them."""
        lot, _ = least_lot(layout, barred, rooms)
        ways = ways_to(layout, barred, rooms)
        along = {}
        for amount, way in ways:
            self.assertIs(type(amount), int)
            self.assertGreaterEqual(amount, 1)
            self.assertTrue(is_way(layout, way), way)
            self.assertIn(way[0], layout.sources())
            self.assertIn(way[-1], rooms)
            self.assertEqual(len(set(way[::2])), len(way[::2]), way)
            for line in way[1::2]:
                along[line] = along.get(line, 0) + amount
        free = [line for line in with_switch(layout) if line not in barred]
        for line in along:
            if line in free:
                self.assertLessEqual(along[line], layout.line(line)[2])
        self.assertEqual(sum(amount for amount, _ in ways), cost_of(layout, lot))
        self.assertLessEqual(len(ways), len(layout.lines()) + len(layout.rooms()))
        if {layout.line(line)[2] for line in layout.lines()} <= {1}:
            self.assertEqual(len(ways), len(lot))
            self.assertEqual([along[line] for line in along if line in free],
                             [1] * len([line for line in along if line in free]))
        # Asked again, the same is told.
        self.assertEqual(ways_to(layout, barred, rooms), ways)
        return ways

    def test_a_chain(self):
        layout = made_layout(
            ["p", "q", "r"], [("a", "p", "q", 5), ("b", "q", "r", 3)], sources=["p"])
        self.assertEqual(self.assert_ways(layout, [], ["r"]), [(3, ["p", "a", "q", "b", "r"])])
        self.assertEqual(self.assert_ways(layout, ["b"], ["r"]), [(5, ["p", "a", "q", "b", "r"])])
        self.assertEqual(self.assert_ways(layout, [], ["r", "q"]), [(5, ["p", "a", "q"])])

    def test_several_lines_between_the_same_two_rooms(self):
        layout = made_layout(
            ["p", "q"], [("a", "p", "q", 5), ("b", "q", "p", 3), ("c", "p", "q", 1)], sources=["q"])
        self.assertEqual(
            sorted(self.assert_ways(layout, [], ["p"])),
            [(1, ["q", "c", "p"]), (3, ["q", "b", "p"]), (5, ["q", "a", "p"])])

    def test_more_than_its_cost_goes_along_a_barred_line_and_one_of_cost_0(self):
        layout = made_layout(
            ["p", "q", "r", "s"],
            [("a", "p", "q", 60), ("b", "p", "q", 70), ("c", "q", "r", 0), ("d", "r", "s", 1)],
            sources=["p"])
        self.assertEqual(
            sorted(self.assert_ways(layout, ["d"], ["s"])),
            [(60, ["p", "a", "q", "c", "r", "d", "s"]), (70, ["p", "b", "q", "c", "r", "d", "s"])])
        self.assertEqual(sum(amount for amount, _ in self.assert_ways(layout, [], ["s"])), 1)
        with self.assertRaises(NoPart):
            ways_to(layout, ["d", "a"], ["s"])

    def test_much_goes_along_lines_that_cannot_be_shut(self):
        names = many_names(40)
        lines = [(name, "p", "q", 99) for name in names[:38]]
        lines += [(names[38], "q", "r", 0), (names[39], "r", "s", 1)]
        layout = made_layout(["p", "q", "r", "s"], lines, sources=["p"])
        ways = self.assert_ways(layout, [names[39]], ["s"])
        self.assertEqual(len(ways), 38)
        self.assertEqual([amount for amount, _ in ways], [99] * 38)

    def test_what_was_sent_is_sent_another_way(self):
        # Along m something goes at first, and then as much the other way.
        layout = made_layout(
            ["p", "a", "b", "c", "d", "s"],
            [("x", "p", "a", 1), ("m", "a", "b", 1), ("y", "b", "s", 1), ("u", "a", "c", 1),
             ("uu", "c", "s", 1), ("v", "p", "d", 1), ("vv", "d", "b", 1)], sources=["p"])
        ways = self.assert_ways(layout, [], ["s"])
        self.assertEqual(sorted(way for _, way in ways), [
            ["p", "v", "d", "vv", "b", "y", "s"], ["p", "x", "a", "u", "c", "uu", "s"]])

    def test_several_sources_and_several_rooms(self):
        layout = made_layout(
            ["p", "q", "r", "s", "t"],
            [("a", "p", "q", 2), ("b", "q", "r", 2), ("c", "r", "s", 2), ("d", "s", "t", 2)],
            sources=["p", "t"])
        self.assertEqual(sorted(self.assert_ways(layout, [], ["s", "q"])),
                         [(2, ["p", "a", "q"]), (2, ["t", "d", "s"])])
        self.assertEqual(sorted(self.assert_ways(layout, [], ["r"])),
                         [(2, ["p", "a", "q", "b", "r"]), (2, ["t", "d", "s", "c", "r"])])

    def test_costs_of_1_in_a_grid(self):
        layout = grid_layout([1], [0, 2])
        rooms = many_names(24)
        self.assertEqual(len(self.assert_ways(layout, [], [rooms[15]])), 4)
        self.assertEqual(len(self.assert_ways(layout, [], [rooms[23]])), 2)
        # The two sources and the room between them have four lines around them.
        self.assertEqual(len(self.assert_ways(layout, [], rooms[12:])), 4)

    def test_ways_of_chance_layouts(self):
        chance = random.Random(210)
        asked = 0
        for at in range(1200):
            large = at < 250
            layout = chance_layout(
                chance, 24 if large else chance.randint(2, 9), 40 if large else chance.randint(0, 14),
                0, chance.randint(0, 4),
                chance.choice(((1,), (99,), (0, 1, 2, 3), (1, 99), range(1, 100), (0, 1))))
            barred = some_of(chance, with_switch(layout)) if chance.random() < 0.2 else []
            rooms = chance.sample(layout.rooms(), chance.choice((1, 1, 2)))
            try:
                least_lot(layout, barred, rooms)
            except NoPart:
                continue
            asked += 1
            self.assert_ways(layout, barred, rooms)
        self.assertGreater(asked, 500)


class TurnsTest(unittest.TestCase):
    # Far above what is needed, far below what a way tried for each unit of cost would need.
    MOST_LINES_RUN = 150000

    def lines_run(self, asked, *handed):
        """How many lines of the package are run to answer."""
        count = [0]

        def trace(frame, event, arg):
            if "stillmain" not in frame.f_code.co_filename:
                return None
            count[0] += event == "line"
            return trace

        ahead = sys.gettrace()
        sys.settrace(trace)
        try:
            asked(*handed)
        finally:
            sys.settrace(ahead)
        return count[0]

    def test_few_turns_up_to_the_bounds(self):
        chance = random.Random(211)
        layouts = [grid_layout(list(range(99, 59, -1)), [0]), grid_layout([99, 1, 98], [0, 5])]
        layouts += [chance_layout(chance, 24 - at % 12, 40, 0, 3, range(60, 100)) for at in range(24)]
        for layout in layouts:
            room = [room for room in layout.rooms() if room not in layout.sources()][-1]
            for asked in (least_lot, ways_to):
                run = self.lines_run(asked, layout, [], [room])
                self.assertGreater(run, 0)
                self.assertLess(run, self.MOST_LINES_RUN)


if __name__ == "__main__":
    unittest.main()
