"""Points 5 to 9 and 36 to 42 over long rows of deeds, each beside plain notes."""

import copy
import random
import unittest

from brute import joined_with, with_switch
from chancedeeds import Pool
from plainworks import PlainWorks, lot_as_told, lot_by_trying
from refusing import FIELD
from stillmain.dry import amiss
from stillmain.errors import MainsError, NoPart
from stillmain.least import cost_of, least_lot, ways_to
from stillmain.works import Works
from workses import all_told_of_works

NAMELESS = ("add_room", "take_room", "add_line", "take_line", "add_drain", "take_drain", "add_source",
            "take_source", "turn", "stick", "mend")


def answer_of(works, deed):
    """What a works' method tells, as point 44 has it."""
    try:
        return "done", getattr(works, deed[0])(*deed[1:])
    except MainsError as refusal:
        thing = getattr(refusal, FIELD[type(refusal)])
        return "refused", type(refusal).__name__, thing if type(thing) is list else [thing]


class WholeTest(unittest.TestCase):
    """What holds of a works at every moment."""

    def assert_whole(self, works, homes):
        live = joined_with(works.layout(), works.shut(), works.layout().sources())
        for drain in works.opened():
            self.assertNotIn(works.layout().drain(drain), live)
        for job in works.jobs():
            if works.phase(job) == "given":
                self.assert_kept(works, job, live)
        board = works.board()
        for device in board.devices():
            if not board.jobs_on(device):
                self.assertEqual(board.stands(device), homes[device], device)

    def assert_kept(self, works, job, live):
        """Point 5, of a job whose permit is given."""
        layout, board, (_, side, _) = works.layout(), works.board(), works.lot(job)
        crew = works.crew_at(job)
        self.assertLessEqual(set(works.stretch(job)), set(side))
        for room in side:
            self.assertNotIn(room, live)
            self.assertNotIn(room, works.wet())
            self.assertNotIn(room, layout.sources())
        for line in layout.lines():
            one, other, cost = layout.line(line)
            if (one in side) != (other in side):
                self.assertGreater(cost, 0)
                self.assertEqual(board.stands(line), "shut")
                self.assertEqual(sorted(hand for of, hand in board.tags(line) if of == job), sorted(crew))
        self.assertIsNone(amiss(works, job, side))

    def assert_least(self, works, job, barred):
        """Point 9, of a job that is just begun."""
        layout, (switches, side, _) = works.layout(), works.lot(job)
        ways = ways_to(layout, barred, works.stretch(job))
        self.assertEqual(sum(amount for amount, _ in ways), cost_of(layout, switches))
        self.assertEqual(joined_with(layout, switches, works.stretch(job)), side)
        self.assertFalse(set(side) & set(layout.sources()))
        self.assertFalse(set(switches) & set(barred))

    def note(self, homes, deed, layout):
        """Keep where each device stands when no tags hang on it."""
        if deed[0] == "add_line" and deed[4]:
            homes[deed[1]] = "open"
        elif deed[0] == "add_drain":
            homes[deed[1]] = "shut"
        elif deed[0] == "turn":
            homes[deed[1]] = deed[2]

    def end_all(self, works, chance):
        """End all jobs, one with another; nothing but what is stuck is in their way (point 7)."""
        mended = []
        while works.jobs():
            job = chance.choice(works.jobs())
            if works.phase(job) == "away":
                answer = answer_of(works, ("step", job))
                if answer[0] == "refused":
                    self.assertEqual(answer[1], "Stuck")
                    works.mend(answer[2][0])
                    mended.append(("mend", answer[2][0]))
                continue
            for hand in works.crew_at(job)[1:]:
                works.sign_off(job, hand)
            works.end(job)
        return mended

    def assert_as_it_stood(self, works, deeds):
        """Point 7: as a works to which just the deeds that name no job and no hand are done."""
        beside = Works()
        for deed in deeds:
            getattr(beside, deed[0])(*deed[1:])
        told, due = all_told_of_works(works), all_told_of_works(beside)
        for part in ("layout", "board", "shut", "opened", "jobs"):
            self.assertEqual(told[part], due[part], part)


class WalkTest(WholeTest):
    def walk(self, seed, pool, many, lot_of, first=()):
        chance = random.Random(seed)
        works, plain = Works(), PlainWorks(lot_of)
        homes, nameless, came = {}, [], {}
        for at in range(len(first) + many):
            deed = first[at] if at < len(first) else pool.deed(chance, works)
            barred = [switch for switch in with_switch(works.layout()) if switch not in works.shut()
                      and works.board().is_stuck(switch)] if deed[0] == "begin" else []
            handed = copy.deepcopy(deed)
            answer = answer_of(works, deed)
            self.assertEqual(deed, handed)
            self.assertEqual(answer, plain.answer(deed), deed)
            self.assertEqual(all_told_of_works(works), plain.told(), deed)
            if answer[0] == "done":
                self.note(homes, deed, works.layout())
                nameless += [deed] if deed[0] in NAMELESS else []
                if deed[0] == "begin":
                    self.assert_least(works, deed[1], barred)
            self.assert_whole(works, homes)
            kind = (deed[0], answer[0] if answer[0] == "done" else answer[1])
            came[kind] = came.get(kind, 0) + 1
            if chance.random() < 0.05:
                works = works.copied()
        nameless += self.end_all(works, chance)
        self.assert_as_it_stood(works, nameless)
        return came

    def added(self, pool, chance, lines, drains):
        """The deeds of a layout of all rooms of the pool, so many lines and drains, and two sources."""
        deeds = [("add_room", room) for room in pool.rooms]
        for line in pool.lines[:lines]:
            deeds.append(("add_line", line) + tuple(chance.sample(pool.rooms[:22], 2))
                         + (chance.choice(pool.costs),))
        deeds += [("add_drain", drain, chance.choice(pool.rooms)) for drain in pool.drains[:drains]]
        return deeds + [("add_source", room) for room in pool.rooms[:2]]

    def test_small_works(self):
        came = {}
        for seed in range(12):
            pool = Pool(4 + seed % 3, 7, 3, 3, 3 + seed % 2)
            first = self.added(pool, random.Random(seed), 5, 2) if seed % 4 else []
            for answer, times in self.walk(seed, pool, 400, lot_by_trying, first).items():
                came[answer] = came.get(answer, 0) + times
        self.assert_came(came, [
            ("add_room", "There"), ("add_line", "There"), ("add_line", "Lacks"), ("add_line", "Held"),
            ("add_drain", "There"), ("add_source", "There"), ("add_source", "Held"), ("take_room", "Lacks"),
            ("take_room", "InUse"), ("take_room", "Held"), ("take_line", "Lacks"), ("take_line", "Held"),
            ("take_drain", "Lacks"), ("take_drain", "Held"), ("take_source", "Lacks"), ("turn", "Lacks"),
            ("turn", "Held"), ("turn", "Stuck"), ("stick", "Lacks"), ("mend", "Lacks"), ("ask", "There"),
            ("begin", "Lacks"), ("begin", "NotNow"), ("begin", "NoPart"), ("step", "Lacks"),
            ("step", "NotNow"), ("step", "Held"), ("step", "Stuck"), ("give", "Lacks"), ("give", "NotNow"),
            ("give", "NotDry"), ("end", "Lacks"), ("end", "Held"), ("put_by", "NotNow"),
            ("try_out", "NotNow"), ("go_on", "NotNow"), ("sign_on", "There"), ("sign_on", "NotNow"),
            ("sign_off", "Lacks"), ("sign_off", "NotNow"), ("hand_over", "Lacks"), ("hand_over", "There"),
            ("relieve", "Lacks"), ("relieve", "There")])

    def assert_came(self, came, refusals):
        for word in NAMELESS + ("ask", "begin", "step", "give", "end", "put_by", "try_out", "go_on", "sign_on",
                                "sign_off", "hand_over", "relieve"):
            self.assertGreater(came.get((word, "done"), 0), 0, (word, came))
        for kind in refusals:
            self.assertGreater(came.get(kind, 0), 0, (kind, came))

    def test_works_of_24_rooms_40_lines_and_12_drains(self):
        came = {}
        for seed in range(4):
            pool = Pool(24, 42, 13, 9, 8, (1, 1, 2, 3, 5, 9, 99) + (0,) * (seed == 1))
            first = self.added(pool, random.Random(seed), 40, 12)
            for answer, times in self.walk(100 + seed, pool, 600, lot_as_told, first).items():
                came[answer] = came.get(answer, 0) + times
        self.assert_came(came, [("add_line", "Held"), ("add_source", "Held"), ("take_line", "Held"),
                                ("step", "Held"), ("step", "Stuck"), ("turn", "Held")])


if __name__ == "__main__":
    unittest.main()
