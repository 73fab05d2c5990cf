"""Points 5 to 9 and 36 to 42 over long rows of deeds, each beside plain notes."""

import copy
import random
import unittest

from brute import with_switch
from chancedeeds import Pool
from plainworks import PlainWorks, lot_as_told, lot_by_trying
from stillmain.works import Works
from whole import NAMELESS, Whole, answer_of
from workses import all_told_of_works


class WalkTest(Whole):
    def walk(self, seed, pool, many, lot_of, first=()):
        chance = random.Random(seed)
        works, plain = Works(), PlainWorks(lot_of)
        homes, nameless, came = {}, [], {}
        for at in range(len(first) + many):
            deed = first[at] if at < len(first) else pool.deed(chance, works)
            barred = [switch for switch in with_switch(works.layout()) if switch not in works.shut()
                      and works.board().is_stuck(switch)] if deed[0] == "begin" else []
            handed = copy.deepcopy(deed)
            answer = answer_of(works, deed)
            self.assertEqual(deed, handed)
            self.assertEqual(answer, plain.answer(deed), deed)
            self.assertEqual(all_told_of_works(works), plain.told(), deed)
            if answer[0] == "done":
                self.note(homes, deed)
                nameless += [deed] if deed[0] in NAMELESS else []
                if deed[0] == "begin":
                    self.assert_least(works, deed[1], barred)
            self.assert_whole(works, homes)
            kind = (deed[0], answer[0] if answer[0] == "done" else answer[1])
            came[kind] = came.get(kind, 0) + 1
            if chance.random() < 0.05:
                works = works.copied()
        nameless += self.end_all(works, chance)
        self.assert_as_it_stood(works, nameless)
        return came

    def test_small_works(self):
        came = {}
        for seed in range(12):
            pool = Pool(4 + seed % 3, 7, 3, 3, 3 + seed % 2)
            first = pool.layout_deeds(random.Random(seed), 5, 2) if seed % 4 else []
            for answer, times in self.walk(seed, pool, 400, lot_by_trying, first).items():
                came[answer] = came.get(answer, 0) + times
        self.assert_came(came, [
            ("add_room", "There"), ("add_line", "There"), ("add_line", "Lacks"), ("add_line", "Held"),
            ("add_drain", "There"), ("add_source", "There"), ("add_source", "Held"), ("take_room", "Lacks"),
            ("take_room", "InUse"), ("take_room", "Held"), ("take_line", "Lacks"), ("take_line", "Held"),
            ("take_drain", "Lacks"), ("take_drain", "Held"), ("take_source", "Lacks"), ("turn", "Lacks"),
            ("turn", "Held"), ("turn", "Stuck"), ("stick", "Lacks"), ("mend", "Lacks"), ("ask", "There"),
            ("begin", "Lacks"), ("begin", "NotNow"), ("begin", "NoPart"), ("step", "Lacks"),
            ("step", "NotNow"), ("step", "Held"), ("step", "Stuck"), ("give", "Lacks"), ("give", "NotNow"),
            ("give", "NotDry"), ("end", "Lacks"), ("end", "Held"), ("put_by", "NotNow"),
            ("try_out", "NotNow"), ("go_on", "NotNow"), ("sign_on", "There"), ("sign_on", "NotNow"),
            ("sign_off", "Lacks"), ("sign_off", "NotNow"), ("hand_over", "Lacks"), ("hand_over", "There"),
            ("relieve", "Lacks"), ("relieve", "There")])

    def assert_came(self, came, refusals):
        for word in NAMELESS + ("ask", "begin", "step", "give", "end", "put_by", "try_out", "go_on", "sign_on",
                                "sign_off", "hand_over", "relieve"):
            self.assertGreater(came.get((word, "done"), 0), 0, (word, came))
        for kind in refusals:
            self.assertGreater(came.get(kind, 0), 0, (kind, came))

    def test_works_of_24_rooms_40_lines_and_12_drains(self):
        came = {}
        for seed in range(4):
            pool = Pool(24, 42, 13, 9, 8, (1, 1, 2, 3, 5, 9, 99) + (0,) * (seed == 1))
            first = pool.layout_deeds(random.Random(seed), 40, 12)
            for answer, times in self.walk(100 + seed, pool, 600, lot_as_told, first).items():
                came[answer] = came.get(answer, 0) + times
        self.assert_came(came, [("add_line", "Held"), ("add_source", "Held"), ("take_line", "Held"),
                                ("step", "Held"), ("step", "Stuck"), ("turn", "Held")])


if __name__ == "__main__":
    unittest.main()
