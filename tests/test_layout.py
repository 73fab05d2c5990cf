"""Points 12 to 14, and point 3 of a layout."""

import unittest

from layouts import all_told, full_layout, small_layout
from samples import many_names
from stillmain import layout as module
from stillmain.errors import InUse, Lacks, There, TooMany
from stillmain.layout import Layout

METHODS = (
    "add_room", "add_line", "add_drain", "add_source", "take_room", "take_line", "take_drain",
    "take_source", "rooms", "lines", "drains", "sources", "line", "drain", "lines_at", "copied",
)


class LayoutTest(unittest.TestCase):
    def assert_refused(self, layout, refusal, call, *handed):
        """The call is refused so, tells so in its field, and changes nothing."""
        (kind, field, kept) = refusal
        ahead = all_told(layout)
        with self.assertRaises(ValueError, msg=(call, handed)) as caught:
            getattr(layout, call)(*handed)
        self.assertIs(type(caught.exception), kind, (call, handed))
        self.assertEqual(getattr(caught.exception, field), kept)
        self.assertIs(type(getattr(caught.exception, field)), type(kept))
        self.assertEqual(all_told(layout), ahead)

    def assert_there(self, layout, name, call, *handed):
        self.assert_refused(layout, (There, "name", name), call, *handed)

    def assert_lacks(self, layout, name, call, *handed):
        self.assert_refused(layout, (Lacks, "name", name), call, *handed)

    def assert_too_many(self, layout, most, call, *handed):
        self.assert_refused(layout, (TooMany, "most", most), call, *handed)

    def assert_in_use(self, layout, name, call, *handed):
        self.assert_refused(layout, (InUse, "name", name), call, *handed)


class InterfaceTest(unittest.TestCase):
    def test_the_class_defines_its_methods_itself(self):
        self.assertEqual(Layout.__module__, "stillmain.layout")
        self.assertIs(module.Layout, Layout)
        for method in METHODS:
            self.assertIn(method, vars(Layout))

    def test_deeds_tell_none(self):
        layout = Layout()
        self.assertIsNone(layout.add_room("p"))
        self.assertIsNone(layout.add_room("q"))
        self.assertIsNone(layout.add_line("a", "p", "q", 1))
        self.assertIsNone(layout.add_drain("u", "p"))
        self.assertIsNone(layout.add_source("p"))
        self.assertIsNone(layout.take_source("p"))
        self.assertIsNone(layout.take_drain("u"))
        self.assertIsNone(layout.take_line("a"))
        self.assertIsNone(layout.take_room("p"))

    def test_what_is_told_is_of_pythons_own_kinds(self):
        layout = small_layout()
        for told in (layout.rooms(), layout.lines(), layout.drains(), layout.sources(),
                     layout.lines_at("p")):
            self.assertIs(type(told), list)
            self.assertEqual([type(name) for name in told], [str] * len(told))
        self.assertIs(type(layout.line("b")), tuple)
        self.assertEqual([type(part) for part in layout.line("b")], [str, str, int])
        self.assertIs(type(layout.drain("u")), str)
        self.assertIs(type(layout.copied()), Layout)


class ToldTest(LayoutTest):
    def test_nothing_at_first(self):
        layout = Layout()
        self.assertEqual(
            (layout.rooms(), layout.lines(), layout.drains(), layout.sources()), ([], [], [], []))
        for call in ("line", "drain", "lines_at"):
            self.assert_lacks(layout, "a", call, "a")

    def test_all_is_told_sorted(self):
        layout = small_layout()
        self.assertEqual(layout.rooms(), ["p", "q", "r"])
        self.assertEqual(layout.lines(), ["a", "b", "c", "d"])
        self.assertEqual(layout.drains(), ["u", "v", "w"])
        self.assertEqual(layout.sources(), ["p"])
        layout.add_source("r")
        layout.add_source("q")
        self.assertEqual(layout.sources(), ["p", "q", "r"])

    def test_sorted_as_python_sorts(self):
        layout = Layout()
        for room in ("b", "ab", "aab", "aa", "a", "ba", "zz", "z", "abcdefgh"):
            layout.add_room(room)
        told = ["a", "aa", "aab", "ab", "abcdefgh", "b", "ba", "z", "zz"]
        self.assertEqual(layout.rooms(), told)
        for room in reversed(told[1:]):
            layout.add_line("x" + room[:7], "a", room, 3)
        self.assertEqual(layout.lines_at("a"), sorted("x" + room[:7] for room in told[1:]))

    def test_a_line_has_its_ends_as_handed_in_and_its_cost(self):
        layout = small_layout()
        self.assertEqual(layout.line("a"), ("p", "q", 0))
        self.assertEqual(layout.line("b"), ("q", "p", 7))
        self.assertEqual(layout.line("c"), ("q", "r", 1))
        self.assertEqual(layout.line("d"), ("q", "p", 99))

    def test_a_line_of_every_cost(self):
        layout = Layout()
        layout.add_room("p")
        layout.add_room("q")
        for cost in range(100):
            layout.add_line("a", "q", "p", cost)
            self.assertEqual(layout.line("a"), ("q", "p", cost))
            layout.take_line("a")

    def test_a_drain_has_its_room(self):
        layout = small_layout()
        self.assertEqual([layout.drain(drain) for drain in "uvw"], ["r", "r", "q"])

    def test_the_lines_at_a_room(self):
        layout = small_layout()
        layout.add_room("s")
        self.assertEqual(layout.lines_at("p"), ["a", "b", "d"])
        self.assertEqual(layout.lines_at("q"), ["a", "b", "c", "d"])
        self.assertEqual(layout.lines_at("r"), ["c"])
        self.assertEqual(layout.lines_at("s"), [])

    def test_lacks_what_is_not_there(self):
        layout = small_layout()
        for name in ("x", "aa", "p", "u", "zzzzzzzz"):
            self.assert_lacks(layout, name, "line", name)
        for name in ("x", "uu", "p", "a"):
            self.assert_lacks(layout, name, "drain", name)
        for name in ("x", "pp", "a", "u"):
            self.assert_lacks(layout, name, "lines_at", name)

    def test_told_lists_are_the_askers_own(self):
        for layout in (small_layout(), full_layout(), Layout()):
            ahead = all_told(layout)
            told = [layout.rooms(), layout.lines(), layout.drains(), layout.sources()]
            told += [layout.lines_at(room) for room in layout.rooms()]
            for names in told:
                names.reverse()
                names.append("zzz")
                del names[0]
                self.assertEqual(all_told(layout), ahead)
                names.clear()
                self.assertEqual(all_told(layout), ahead)

    def test_what_was_told_stays_behind_a_deed(self):
        layout = small_layout()
        rooms, lines, drains, sources = (
            layout.rooms(), layout.lines(), layout.drains(), layout.sources())
        at_q = layout.lines_at("q")
        layout.take_line("b")
        layout.take_drain("w")
        layout.take_source("p")
        layout.add_room("s")
        self.assertEqual(rooms, ["p", "q", "r"])
        self.assertEqual(lines, ["a", "b", "c", "d"])
        self.assertEqual(drains, ["u", "v", "w"])
        self.assertEqual(sources, ["p"])
        self.assertEqual(at_q, ["a", "b", "c", "d"])

    def test_asking_changes_nothing(self):
        layout = small_layout()
        first = all_told(layout)
        for _ in range(3):
            self.assertEqual(all_told(layout), first)
        layout.copied()
        self.assertEqual(all_told(layout), first)


class BoundsTest(LayoutTest):
    def test_24_rooms(self):
        layout = Layout()
        names = many_names(26)
        for many, room in enumerate(names[:24]):
            self.assertEqual(len(layout.rooms()), many)
            layout.add_room(room)
        self.assertEqual(layout.rooms(), sorted(names[:24]))
        self.assert_too_many(layout, 24, "add_room", names[24])
        self.assert_too_many(layout, 24, "add_room", names[25])
        layout.take_room(names[3])
        layout.add_room(names[24])
        self.assert_too_many(layout, 24, "add_room", names[3])

    def test_40_lines(self):
        layout = small_layout()
        names = many_names(38)
        for many, line in enumerate(names[:36]):
            self.assertEqual(len(layout.lines()), 4 + many)
            layout.add_line(line, "r", "p", many)
        self.assertEqual(layout.lines(), sorted(list("abcd") + names[:36]))
        self.assertEqual(layout.lines_at("p"), sorted(list("abd") + names[:36]))
        self.assert_too_many(layout, 40, "add_line", names[36], "p", "q", 0)
        self.assert_too_many(layout, 40, "add_line", names[37], "q", "r", 5)
        layout.take_line("a")
        layout.add_line(names[36], "p", "q", 0)
        self.assert_too_many(layout, 40, "add_line", "a", "p", "q", 0)

    def test_12_drains(self):
        layout = small_layout()
        names = many_names(11)
        for many, drain in enumerate(names[:9]):
            self.assertEqual(len(layout.drains()), 3 + many)
            layout.add_drain(drain, "p")
        self.assertEqual(layout.drains(), sorted(["u", "v", "w"] + names[:9]))
        self.assert_too_many(layout, 12, "add_drain", names[9], "p")
        self.assert_too_many(layout, 12, "add_drain", names[10], "r")
        layout.take_drain("v")
        layout.add_drain(names[9], "r")
        self.assert_too_many(layout, 12, "add_drain", "v", "r")

    def test_each_bound_is_its_own(self):
        layout = full_layout()
        self.assertEqual(
            (len(layout.rooms()), len(layout.lines()), len(layout.drains())), (24, 40, 12))
        rooms = layout.rooms()
        self.assert_too_many(layout, 24, "add_room", "x")
        self.assert_too_many(layout, 40, "add_line", "x", rooms[0], rooms[1], 4)
        self.assert_too_many(layout, 12, "add_drain", "x", rooms[0])
        layout.take_drain(layout.drains()[0])
        self.assert_too_many(layout, 24, "add_room", "x")
        self.assert_too_many(layout, 40, "add_line", "x", rooms[0], rooms[1], 4)
        layout.add_drain("x", rooms[0])

    def test_all_rooms_may_be_sources(self):
        layout = full_layout()
        layout.take_source(layout.sources()[0])
        for room in reversed(layout.rooms()):
            layout.add_source(room)
        self.assertEqual(layout.sources(), layout.rooms())

    def test_all_drains_may_be_in_one_room(self):
        layout = Layout()
        layout.add_room("p")
        for drain in many_names(12):
            layout.add_drain(drain, "p")
        self.assertEqual([layout.drain(drain) for drain in many_names(12)], ["p"] * 12)

    def test_refused_deeds_do_not_count(self):
        layout = small_layout()
        for _ in range(50):
            self.assert_there(layout, "p", "add_room", "p")
            self.assert_there(layout, "a", "add_line", "a", "p", "q", 4)
            self.assert_lacks(layout, "x", "add_line", "e", "p", "x", 4)
            self.assert_there(layout, "a", "add_drain", "a", "p")
            self.assert_lacks(layout, "x", "add_drain", "e", "x")
        for room in many_names(21):
            layout.add_room(room)
        for line in many_names(36):
            layout.add_line(line, "p", "q", 4)
        for drain in many_names(45)[36:]:
            layout.add_drain(drain, "p")
        self.assertEqual(
            (len(layout.rooms()), len(layout.lines()), len(layout.drains())), (24, 40, 12))


class NamesTest(LayoutTest):
    def test_a_room_is_added_once(self):
        layout = small_layout()
        for room in ("p", "q", "r"):
            self.assert_there(layout, room, "add_room", room)

    def test_a_room_may_be_called_like_a_line_or_a_drain(self):
        layout = small_layout()
        layout.add_room("a")
        layout.add_room("u")
        self.assertEqual(layout.rooms(), ["a", "p", "q", "r", "u"])
        self.assertEqual(layout.lines_at("a"), [])
        self.assertEqual(layout.line("a"), ("p", "q", 0))
        self.assertEqual(layout.drain("u"), "r")

    def test_a_line_or_a_drain_may_be_called_like_a_room(self):
        layout = small_layout()
        layout.add_line("p", "p", "q", 5)
        layout.add_line("q", "r", "p", 6)
        layout.add_drain("r", "r")
        self.assertEqual(layout.line("p"), ("p", "q", 5))
        self.assertEqual(layout.line("q"), ("r", "p", 6))
        self.assertEqual(layout.drain("r"), "r")
        self.assertEqual(layout.lines_at("p"), ["a", "b", "d", "p", "q"])
        self.assertEqual(layout.lines_at("r"), ["c", "q"])

    def test_lines_and_drains_have_names_together(self):
        layout = small_layout()
        self.assert_there(layout, "a", "add_line", "a", "p", "r", 3)
        self.assert_there(layout, "a", "add_line", "a", "p", "q", 0)
        self.assert_there(layout, "u", "add_line", "u", "p", "q", 3)
        self.assert_there(layout, "u", "add_drain", "u", "r")
        self.assert_there(layout, "w", "add_drain", "w", "p")
        self.assert_there(layout, "a", "add_drain", "a", "p")
        self.assert_there(layout, "b", "add_drain", "b", "p")

    def test_a_name_is_free_again(self):
        layout = small_layout()
        layout.take_line("a")
        layout.add_drain("a", "p")
        self.assert_there(layout, "a", "add_line", "a", "p", "q", 0)
        layout.take_drain("u")
        layout.add_line("u", "p", "r", 2)
        self.assert_there(layout, "u", "add_drain", "u", "r")
        self.assertEqual(layout.lines(), ["b", "c", "d", "u"])
        self.assertEqual(layout.drains(), ["a", "v", "w"])

    def test_several_lines_between_the_same_rooms(self):
        layout = small_layout()
        layout.add_line("e", "p", "q", 0)
        layout.add_line("f", "p", "q", 0)
        layout.add_line("g", "q", "p", 0)
        self.assertEqual(layout.lines_at("p"), ["a", "b", "d", "e", "f", "g"])
        layout.take_line("e")
        self.assertEqual(layout.lines_at("p"), ["a", "b", "d", "f", "g"])
        self.assertEqual(layout.lines_at("q"), ["a", "b", "c", "d", "f", "g"])
        self.assertEqual(layout.line("f"), ("p", "q", 0))
        self.assertEqual(layout.line("g"), ("q", "p", 0))


class RefusalsTest(LayoutTest):
    def test_a_room_there_ahead_of_too_many(self):
        layout = full_layout()
        for room in layout.rooms():
            self.assert_there(layout, room, "add_room", room)

    def test_a_line_lacks_its_rooms(self):
        layout = small_layout()
        self.assert_lacks(layout, "x", "add_line", "e", "x", "p", 1)
        self.assert_lacks(layout, "y", "add_line", "e", "p", "y", 1)
        self.assert_lacks(layout, "x", "add_line", "e", "x", "y", 1)
        self.assert_lacks(layout, "y", "add_line", "e", "y", "x", 0)
        # Lines and drains are no rooms.
        self.assert_lacks(layout, "a", "add_line", "e", "a", "p", 1)
        self.assert_lacks(layout, "u", "add_line", "e", "p", "u", 1)
        self.assert_lacks(layout, "e", "add_line", "e", "e", "p", 1)

    def test_a_line_there_ahead_of_all(self):
        layout = full_layout()
        rooms = layout.rooms()
        line, drain = layout.lines()[3], layout.drains()[4]
        for name in (line, drain):
            self.assert_there(layout, name, "add_line", name, "x", "y", 1)
            self.assert_there(layout, name, "add_line", name, rooms[0], "y", 1)
            self.assert_there(layout, name, "add_line", name, "x", rooms[0], 1)
            self.assert_there(layout, name, "add_line", name, rooms[0], rooms[1], 1)

    def test_a_line_lacks_ahead_of_too_many(self):
        layout = full_layout()
        room = layout.rooms()[0]
        self.assert_lacks(layout, "x", "add_line", "e", "x", "y", 1)
        self.assert_lacks(layout, "x", "add_line", "e", "x", room, 1)
        self.assert_lacks(layout, "y", "add_line", "e", room, "y", 1)

    def test_a_drain_lacks_its_room(self):
        layout = small_layout()
        self.assert_lacks(layout, "x", "add_drain", "e", "x")
        self.assert_lacks(layout, "a", "add_drain", "e", "a")
        self.assert_lacks(layout, "u", "add_drain", "e", "u")

    def test_a_drain_there_ahead_of_all(self):
        for layout in (small_layout(), full_layout()):
            for name in (layout.lines()[2], layout.drains()[2]):
                self.assert_there(layout, name, "add_drain", name, "x")
                self.assert_there(layout, name, "add_drain", name, layout.rooms()[0])

    def test_a_drain_lacks_ahead_of_too_many(self):
        self.assert_lacks(full_layout(), "x", "add_drain", "e", "x")

    def test_a_source(self):
        layout = small_layout()
        self.assert_lacks(layout, "x", "add_source", "x")
        self.assert_lacks(layout, "a", "add_source", "a")
        self.assert_lacks(layout, "u", "add_source", "u")
        self.assert_there(layout, "p", "add_source", "p")
        layout.add_source("q")
        self.assert_there(layout, "q", "add_source", "q")

    def test_take_a_source(self):
        layout = small_layout()
        self.assert_lacks(layout, "x", "take_source", "x")
        self.assert_lacks(layout, "q", "take_source", "q")
        self.assert_lacks(layout, "a", "take_source", "a")
        layout.take_source("p")
        self.assertEqual(layout.sources(), [])
        self.assertEqual(layout.rooms(), ["p", "q", "r"])
        self.assert_lacks(layout, "p", "take_source", "p")
        layout.add_source("p")
        self.assertEqual(layout.sources(), ["p"])

    def test_take_a_line(self):
        layout = small_layout()
        self.assert_lacks(layout, "x", "take_line", "x")
        self.assert_lacks(layout, "p", "take_line", "p")
        self.assert_lacks(layout, "u", "take_line", "u")
        layout.take_line("b")
        self.assertEqual(layout.lines(), ["a", "c", "d"])
        self.assertEqual(layout.lines_at("p"), ["a", "d"])
        self.assert_lacks(layout, "b", "line", "b")
        self.assert_lacks(layout, "b", "take_line", "b")
        layout.add_line("b", "r", "p", 0)
        self.assertEqual(layout.line("b"), ("r", "p", 0))
        self.assertEqual(layout.lines_at("q"), ["a", "c", "d"])
        self.assertEqual(layout.lines_at("r"), ["b", "c"])

    def test_take_a_drain(self):
        layout = small_layout()
        self.assert_lacks(layout, "x", "take_drain", "x")
        self.assert_lacks(layout, "r", "take_drain", "r")
        self.assert_lacks(layout, "a", "take_drain", "a")
        layout.take_drain("v")
        self.assertEqual(layout.drains(), ["u", "w"])
        self.assert_lacks(layout, "v", "drain", "v")
        self.assert_lacks(layout, "v", "take_drain", "v")
        layout.add_drain("v", "p")
        self.assertEqual(layout.drain("v"), "p")
        self.assertEqual(layout.drain("u"), "r")

    def test_take_a_room(self):
        layout = small_layout()
        self.assert_lacks(layout, "x", "take_room", "x")
        self.assert_lacks(layout, "a", "take_room", "a")
        self.assert_lacks(layout, "u", "take_room", "u")
        layout.add_room("s")
        layout.take_room("s")
        self.assertEqual(layout.rooms(), ["p", "q", "r"])
        self.assert_lacks(layout, "s", "take_room", "s")
        self.assert_lacks(layout, "s", "lines_at", "s")
        self.assert_lacks(layout, "s", "add_source", "s")
        self.assert_lacks(layout, "s", "add_drain", "e", "s")
        self.assert_lacks(layout, "s", "add_line", "e", "p", "s", 1)
        layout.add_room("s")
        self.assertEqual(layout.rooms(), ["p", "q", "r", "s"])
        self.assertEqual(layout.lines_at("s"), [])

    def test_a_room_in_use_where_a_line_ends(self):
        layout = Layout()
        for room in ("p", "q", "s"):
            layout.add_room(room)
        layout.add_line("a", "p", "q", 0)
        layout.add_line("b", "q", "p", 4)
        for line in ("a", "b"):
            self.assert_in_use(layout, "p", "take_room", "p")
            self.assert_in_use(layout, "q", "take_room", "q")
            layout.take_line(line)
        layout.take_room("p")
        layout.take_room("q")
        self.assertEqual(layout.rooms(), ["s"])

    def test_a_room_in_use_at_either_end(self):
        for ends in (("p", "q"), ("q", "p")):
            layout = Layout()
            layout.add_room("p")
            layout.add_room("q")
            layout.add_line("a", *ends, 3)
            self.assert_in_use(layout, "p", "take_room", "p")
            self.assert_in_use(layout, "q", "take_room", "q")

    def test_a_room_in_use_where_a_drain_is(self):
        layout = Layout()
        layout.add_room("p")
        layout.add_room("q")
        layout.add_drain("u", "p")
        layout.add_drain("v", "p")
        for drain in ("v", "u"):
            self.assert_in_use(layout, "p", "take_room", "p")
            layout.take_drain(drain)
        layout.take_room("p")
        self.assertEqual(layout.rooms(), ["q"])

    def test_a_room_in_use_as_a_source(self):
        layout = Layout()
        layout.add_room("p")
        layout.add_room("q")
        layout.add_source("p")
        self.assert_in_use(layout, "p", "take_room", "p")
        layout.take_room("q")
        layout.take_source("p")
        layout.take_room("p")
        self.assertEqual(layout.rooms(), [])
        layout.add_room("p")
        self.assertEqual(layout.sources(), [])

    def test_a_room_called_like_a_line_or_a_drain_is_not_in_use(self):
        layout = small_layout()
        layout.add_room("a")
        layout.add_room("u")
        layout.take_room("a")
        layout.take_room("u")
        self.assertEqual(layout.rooms(), ["p", "q", "r"])
        self.assertEqual(layout.line("a"), ("p", "q", 0))
        self.assertEqual(layout.drain("u"), "r")

    def test_all_taken_away_and_added_again(self):
        layout = full_layout()
        ahead = all_told(layout)
        lines = {line: layout.line(line) for line in layout.lines()}
        drains = {drain: layout.drain(drain) for drain in layout.drains()}
        sources = layout.sources()
        for line in lines:
            layout.take_line(line)
        for drain in drains:
            layout.take_drain(drain)
        for room in sources:
            layout.take_source(room)
        for room in ahead["rooms"]:
            layout.take_room(room)
        self.assertEqual(all_told(layout), all_told(Layout()))
        for room in ahead["rooms"]:
            layout.add_room(room)
        for line, (one, other, cost) in lines.items():
            layout.add_line(line, one, other, cost)
        for drain, room in drains.items():
            layout.add_drain(drain, room)
        for room in sources:
            layout.add_source(room)
        self.assertEqual(all_told(layout), ahead)


if __name__ == "__main__":
    unittest.main()
