"""Point 18: what is wet when it settles, and what spills."""

import itertools
import random
import unittest

from brute import chance_layout, joined_with, made_layout, some_of, with_switch
from layouts import full_layout
from stillmain import water
from stillmain.layout import Layout
from stillmain.water import settled, spilling


def drained_layout():
    """p (a source) -a- q -b- r -c- s; drains t in p, u in q, w in r, v in r."""
    return made_layout(
        ["s", "r", "q", "p"],
        [("c", "r", "s", 3), ("b", "r", "q", 2), ("a", "p", "q", 1)],
        [("w", "r"), ("u", "q"), ("v", "r"), ("t", "p")], ["p"])


def wanted_wet(layout, shut, opened, wet):
    """The wet rooms, each looked at by itself."""
    told = []
    for room in layout.rooms():
        part = joined_with(layout, shut, [room])
        pushed = any(source in part for source in layout.sources())
        drained = any(layout.drain(drain) in part for drain in opened)
        was = any(one in part for one in wet)
        if pushed or (was and not drained):
            told.append(room)
    return told


class InterfaceTest(unittest.TestCase):
    def test_each_is_defined_in_the_module(self):
        for name in ("settled", "spilling"):
            self.assertEqual(getattr(water, name).__module__, "stillmain.water")
            self.assertEqual(getattr(water, name).__name__, name)

    def test_what_is_told_is_of_pythons_own_kinds(self):
        layout = drained_layout()
        for told in (settled(layout, ["a"], [], ["s"]), spilling(layout, [], ["w", "u"])):
            self.assertIs(type(told), list)
            self.assertTrue(told)
            self.assertEqual({type(name) for name in told}, {str})


class SettledTest(unittest.TestCase):
    def test_a_source_wets_its_part(self):
        layout = drained_layout()
        self.assertEqual(settled(layout, [], [], []), ["p", "q", "r", "s"])
        self.assertEqual(settled(layout, ["b"], [], []), ["p", "q"])
        self.assertEqual(settled(layout, ["a"], [], []), ["p"])

    def test_a_source_goes_ahead_of_an_open_drain(self):
        layout = drained_layout()
        self.assertEqual(settled(layout, ["b"], ["u", "t"], []), ["p", "q"])
        self.assertEqual(settled(layout, [], ["t", "u", "v", "w"], ["s"]), ["p", "q", "r", "s"])

    def test_an_open_drain_goes_ahead_of_a_wet_room(self):
        layout = drained_layout()
        self.assertEqual(settled(layout, ["a"], ["w"], ["q", "r", "s"]), ["p"])
        self.assertEqual(settled(layout, ["a"], ["v", "u"], ["s"]), ["p"])
        # Drained elsewhere in the part is drained.
        self.assertEqual(settled(layout, ["a"], ["u"], ["s"]), ["p"])

    def test_a_wet_room_wets_its_part(self):
        layout = drained_layout()
        self.assertEqual(settled(layout, ["a"], [], ["s"]), ["p", "q", "r", "s"])
        self.assertEqual(settled(layout, ["a", "c"], [], ["r"]), ["p", "q", "r"])

    def test_what_is_shut_in_stays_wet(self):
        layout = drained_layout()
        self.assertEqual(settled(layout, ["b", "c", "a"], [], ["s", "q"]), ["p", "q", "s"])
        self.assertEqual(settled(layout, ["c", "a"], ["w"], ["s", "q"]), ["p", "s"])

    def test_else_dry(self):
        layout = drained_layout()
        self.assertEqual(settled(layout, ["a"], [], []), ["p"])
        layout.take_source("p")
        self.assertEqual(settled(layout, [], [], []), [])
        self.assertEqual(settled(layout, ["a"], ["u"], []), [])
        self.assertEqual(settled(layout, ["a"], [], ["p"]), ["p"])

    def test_each_part_by_itself(self):
        layout = drained_layout()
        self.assertEqual(settled(layout, ["a", "b", "c"], ["u"], ["q", "r"]), ["p", "r"])
        self.assertEqual(settled(layout, ["a", "b", "c"], ["v"], ["r", "s"]), ["p", "s"])

    def test_what_was_told_handed_in_again(self):
        layout = drained_layout()
        wet = settled(layout, [], [], [])
        for shut, opened, wanted in (
                (["a"], [], ["p", "q", "r", "s"]), (["a", "b"], ["u"], ["p", "r", "s"]),
                (["c", "a", "b"], ["u"], ["p", "r", "s"]), (["c", "a", "b"], ["w"], ["p", "s"]),
                (["a", "b"], [], ["p", "r", "s"]), (["a"], ["v"], ["p"]), (["c"], [], ["p", "q", "r"]),
                ([], [], ["p", "q", "r", "s"])):
            wet = settled(layout, shut, opened, wet)
            self.assertEqual(wet, wanted)
            self.assertEqual(settled(layout, shut, opened, wet), wanted)

    def test_a_layout_of_nothing(self):
        self.assertEqual(settled(Layout(), [], [], []), [])
        self.assertEqual(spilling(Layout(), [], []), [])

    def test_all_rooms_wet_in_a_full_layout(self):
        layout = full_layout()
        rooms = layout.rooms()
        self.assertEqual(settled(layout, with_switch(layout), [], rooms[::-1]), rooms)
        self.assertEqual(settled(layout, [], layout.drains(), []), rooms)


class SpillingTest(unittest.TestCase):
    def test_open_drains_in_live_rooms_sorted(self):
        layout = drained_layout()
        self.assertEqual(spilling(layout, [], ["w", "u", "v", "t"]), ["t", "u", "v", "w"])
        self.assertEqual(spilling(layout, [], ["v"]), ["v"])
        self.assertEqual(spilling(layout, [], []), [])

    def test_those_elsewhere_do_not_spill(self):
        layout = drained_layout()
        self.assertEqual(spilling(layout, ["b"], ["w", "u", "v", "t"]), ["t", "u"])
        self.assertEqual(spilling(layout, ["a"], ["w", "u", "v"]), [])
        layout.take_source("p")
        self.assertEqual(spilling(layout, [], ["w", "u", "v", "t"]), [])

    def test_a_drain_that_spills_dries_nothing(self):
        layout = drained_layout()
        self.assertEqual(spilling(layout, ["c"], ["w"]), ["w"])
        self.assertEqual(settled(layout, ["c"], ["w"], []), ["p", "q", "r"])


class ChanceTest(unittest.TestCase):
    def test_beside_each_room_looked_at_by_itself(self):
        chance = random.Random(18)
        for at in range(1500):
            large = at < 60
            layout = chance_layout(
                chance, 24 if large else chance.randint(1, 6), 40 if large else chance.randint(0, 7),
                12 if large else chance.randint(0, 4), chance.randint(0, 2))
            shut = some_of(chance, with_switch(layout))
            opened = some_of(chance, layout.drains())
            wet = some_of(chance, layout.rooms())
            self.assertEqual(
                settled(layout, shut, opened, wet), wanted_wet(layout, shut, opened, wet))
            live = joined_with(layout, shut, layout.sources())
            spill = sorted(drain for drain in opened if layout.drain(drain) in live)
            self.assertEqual(spilling(layout, shut, opened), spill)

    def test_in_any_order(self):
        layout = drained_layout()
        told = [
            (settled(layout, list(shut), list(opened), list(wet)),
             spilling(layout, list(shut), list(opened)))
            for shut in itertools.permutations("ac")
            for opened in itertools.permutations("tv")
            for wet in itertools.permutations("srq")]
        self.assertEqual(told, [(["p", "s"], ["t"])] * len(told))


if __name__ == "__main__":
    unittest.main()
