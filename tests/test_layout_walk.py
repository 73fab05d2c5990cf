"""Points 12 to 14 over long rows of deeds, beside a plain list of what should be there."""

import random
import unittest

from layouts import all_told
from stillmain.errors import InUse, Lacks, MainsError, There, TooMany
from stillmain.layout import Layout

FIELD = {There: "name", Lacks: "name", InUse: "name", TooMany: "most"}


def due_of_adding(told, deed):
    """The refusals that are due when something is added, in order."""
    word, name = deed[0], deed[1]
    taken = {"add_room": told["rooms"], "add_source": told["sources"]}
    rooms = {"add_line": deed[2:4], "add_drain": deed[2:3], "add_source": deed[1:2]}
    there = [(There, name)] if name in taken.get(word, told["lines"] + told["drains"]) else []
    lacks = [(Lacks, room) for room in rooms.get(word, ()) if room not in told["rooms"]]
    bound, kind = {"add_room": (24, "rooms"), "add_line": (40, "lines"),
                   "add_drain": (12, "drains"), "add_source": (25, "sources")}[word]
    full = [(TooMany, bound)] if len(told[kind]) >= bound else []
    return (lacks + there if word == "add_source" else there + lacks) + full


def due_of_taking(told, deed):
    """The refusals that are due when something is taken away, in order."""
    word, name = deed
    if name not in told[word[len("take_"):] + "s"]:
        return [(Lacks, name)]
    ends = [end for one, other, _ in told["line"] for end in (one, other)]
    if word == "take_room" and name in ends + told["drain"] + told["sources"]:
        return [(InUse, name)]
    return []


class WalkTest(unittest.TestCase):
    def random_deed(self, chance, rooms, names):
        word = chance.choice((
            "add_room", "add_room", "add_line", "add_line", "add_line", "add_drain", "add_source",
            "take_room", "take_line", "take_drain", "take_source"))
        if word == "add_line":
            one, other = chance.sample(rooms, 2)
            return (word, chance.choice(names), one, other, chance.randrange(100))
        if word == "add_drain":
            return (word, chance.choice(names), chance.choice(rooms))
        if word in ("take_line", "take_drain"):
            return (word, chance.choice(names))
        return (word, chance.choice(rooms))

    def assert_done(self, layout, deed, chance):
        told = all_told(layout)
        due = (due_of_adding if deed[0].startswith("add") else due_of_taking)(told, deed)
        caught = None
        try:
            getattr(layout, deed[0])(*deed[1:])
        except MainsError as refusal:
            caught = (type(refusal), getattr(refusal, FIELD[type(refusal)]))
        self.assertEqual(caught, due[0] if due else None, deed)
        if due:
            self.assertEqual(all_told(layout), told)
        else:
            self.assert_told(all_told(layout), changed(told, deed))
        return layout.copied() if chance.random() < 0.1 else layout

    def assert_told(self, told, wanted):
        ends = dict(zip(told["lines"], told["line"]))
        self.assertEqual(ends, wanted["ends"])
        self.assertEqual(dict(zip(told["drains"], told["drain"])), wanted["in_room"])
        for kind in ("rooms", "lines", "drains", "sources"):
            self.assertEqual(told[kind], sorted(wanted[kind]))
        at_rooms = [[line for line in sorted(ends) if room in ends[line][:2]]
                    for room in told["rooms"]]
        self.assertEqual(told["lines_at"], at_rooms)

    def test_random_walks(self):
        letters = "abcdefghijklmnopqrstuvwxyz"
        for seed, names in enumerate((letters[:4], letters[:12], letters, letters)):
            chance = random.Random(seed)
            names = list(names) + ([one + "x" for one in names] if seed == 3 else [])
            layout = Layout()
            for _ in range(1500):
                layout = self.assert_done(layout, self.random_deed(chance, names, names), chance)

    def test_a_walk_to_the_bounds(self):
        chance = random.Random(99)
        names = [one + other for one in "abcdefgh" for other in "pqrstuvw"]
        layout = Layout()
        full = set()
        for _ in range(1500):
            deed = self.random_deed(chance, names[:26], names)
            if deed[0].startswith("take") and chance.random() < 0.9:
                continue
            layout = self.assert_done(layout, deed, chance)
            full.add((len(layout.rooms()) == 24, len(layout.lines()) == 40,
                      len(layout.drains()) == 12))
        self.assertIn((True, True, True), full)


def changed(told, deed):
    """What is there behind a deed that is let by."""
    word, name = deed[0], deed[1]
    kind = word[word.index("_") + 1:] + "s"
    wanted = {key: list(told[key]) for key in ("rooms", "lines", "drains", "sources")}
    wanted["ends"] = dict(zip(told["lines"], told["line"]))
    wanted["in_room"] = dict(zip(told["drains"], told["drain"]))
    if word.startswith("take"):
        wanted[kind].remove(name)
        wanted["ends"] = {line: wanted["ends"][line] for line in wanted["lines"]}
        wanted["in_room"] = {drain: wanted["in_room"][drain] for drain in wanted["drains"]}
        return wanted
    wanted[kind].append(name)
    if word == "add_line":
        wanted["ends"][name] = deed[2:]
    if word == "add_drain":
        wanted["in_room"][name] = deed[2]
    return wanted


if __name__ == "__main__":
    unittest.main()
