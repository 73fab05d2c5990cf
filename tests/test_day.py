"""Points 46 and 47: rows of a day, the walk and its clash."""

import random
import unittest

from chancedeeds import Pool
from deedlists import DEEDS_AND_TEXTS, WANTED, fitting_deed, not_deeds, spoilt_deeds
from keeping import kept
from refusing import RefusingTest
from samples import not_names, strange_things
from stillmain import day as module
from stillmain.day import is_row, walk_day
from stillmain.deeds import answer_to
from stillmain.errors import Wrong
from stillmain.layout import Layout
from stillmain.works import Works
from workses import SMALL, all_told_of_works, done, full_works, given_works, small_works, steps_done, works_in, works_of

SHORT = ("still", "trial", "again", "away", "gone")
PHASES = ("by", "still", "given", "trial", "away")


def deeds_of(row):
    """The deeds for which a row stands, with the steps at the place of None."""
    word, *things = row
    if word not in SHORT:
        return [row]
    first = {"still": "begin", "trial": "try_out", "again": "go_on", "away": "put_by", "gone": "end"}[word]
    return [(first, things[0]), None] + ([("give", things[0])] if word in ("still", "again") else [])


def walked_by_hand(works, rows):
    """Walk a day at a copy by answers, one after another."""
    works, every = works.copied(), []
    for at, row in enumerate(rows):
        for deed in deeds_of(row):
            job = row[1]
            while True:
                if deed is None and not (job in works.jobs() and works.steps_left(job)):
                    break
                doing = ("step", job) if deed is None else deed
                answer = answer_to(works, doing)
                if answer[0] == "refused":
                    return every, (at, doing) + answer[1:]
                every.append((at, doing))
                if deed is not None:
                    break
    return every, None


class IsRowTest(unittest.TestCase):
    def test_defined_in_its_file(self):
        for one in (is_row, walk_day):
            self.assertEqual(one.__module__, "stillmain.day")
            self.assertIs(getattr(module, one.__name__), one)

    def test_each_deed(self):
        for deed, text in DEEDS_AND_TEXTS:
            self.assertIs(is_row(deed), True)
            self.assertIs(is_row(text), False)
            self.assertIs(is_row(list(deed)), False)

    def test_each_short_row(self):
        for word in SHORT:
            for job in ("jo", "a", "abcdefgh", "still", "gone", "step"):
                self.assertIs(is_row((word, job)), True)

    def test_short_rows_that_are_none(self):
        for word in SHORT:
            for thing in not_names():
                self.assertIs(is_row((word, thing)), False, thing)
            for row in ((word,), (word, "jo", "jo"), [word, "jo"], (word.upper(), "jo"), (word + " ", "jo"),
                        (word[:-1], "jo"), (word + "s", "jo"), ("jo", word), word, word + " jo", ((word, "jo"),),
                        ([word], "jo"), ({word: "jo"}, "jo"), (word, ["jo"]), {word: "jo"}, (word, "jo", None)):
                self.assertIs(is_row(row), False, row)
        for word in ("given", "by", "ended", "", "a", "hold", "free", "paper", "at"):
            self.assertIs(is_row((word, "jo")), False)

    def test_rows_of_no_kind(self):
        short = [(word, "jo") for word in SHORT]
        for thing in not_deeds():
            if thing not in short:
                self.assertIs(is_row(thing), False, thing)


class DayTest(RefusingTest):
    def assert_walk(self, works, rows, every, clash):
        """The walk tells so, twice alike; the works and the rows stay as they are."""
        ahead, handed = all_told_of_works(works), kept(rows)
        for _ in range(2):
            told = walk_day(works, rows)
            self.assertEqual(told, (every, clash))
            self.assertEqual([type(told), type(told[0]), type(told[1])], [tuple, list, type(clash)])
            for one in told[0]:
                self.assertEqual([type(one), type(one[0]), type(one[1])], [tuple, int, tuple])
            self.assertEqual(all_told_of_works(works), ahead)
            self.assertEqual(rows, handed)
        self.assert_it_can_be_done(works, every, clash)
        self.assertEqual(walked_by_hand(works, rows), (every, clash))

    def assert_it_can_be_done(self, works, every, clash):
        """Point 10: just these deeds are let by at the works, and then the one of the clash is refused."""
        works = works.copied()
        for _, deed in every:
            self.assertEqual(answer_to(works, deed)[0], "done", deed)
        if clash is not None:
            self.assertEqual(answer_to(works, clash[1]), ("refused",) + clash[2:])


class WalkTest(DayTest):
    STILL = [("begin", "jo"), ("step", "jo"), ("step", "jo"), ("step", "jo"), ("give", "jo")]

    def at(self, place, deeds):
        return [(place, deed) for deed in deeds]

    def test_no_rows(self):
        for works in (Works(), small_works(), given_works()):
            self.assert_walk(works, [], [], None)

    def test_plain_deeds(self):
        rows = [("add_room", "p"), ("add_room", "q"), ("ask", "jo", "ann", ["q", "p"]), ("begin", "jo")]
        self.assert_walk(Works(), rows, list(enumerate(rows)), None)
        self.assert_walk(Works(), rows + rows, list(enumerate(rows)), (4, ("add_room", "p"), "There", ["p"]))

    def test_each_short_row_where_it_fits(self):
        self.assert_walk(works_in("by"), [("still", "jo")], self.at(0, self.STILL), None)
        self.assert_walk(
            works_in("given"), [("trial", "jo")],
            self.at(0, [("try_out", "jo")] + [("step", "jo")] * 3), None)
        works = works_in("trial")
        steps_done(works, "jo")
        self.assert_walk(
            works, [("again", "jo")],
            self.at(0, [("go_on", "jo")] + [("step", "jo")] * 3 + [("give", "jo")]), None)
        for phase in ("still", "given", "trial"):
            for word, first in (("away", "put_by"), ("gone", "end")):
                works = works_in(phase)
                held = len(works.board().held_by("jo"))
                self.assert_walk(
                    works, [(word, "jo")], self.at(0, [(first, "jo")] + [("step", "jo")] * held), None)
        self.assert_walk(works_in("by"), [("gone", "jo")], self.at(0, [("end", "jo")]), None)

    def test_again_in_the_middle_of_a_trial(self):
        works = works_in("trial")
        self.assert_walk(works, [("again", "jo")], self.at(0, [("go_on", "jo"), ("give", "jo")]), None)
        works.step("jo")
        self.assert_walk(
            works, [("again", "jo")], self.at(0, [("go_on", "jo"), ("step", "jo"), ("give", "jo")]), None)

    def test_each_short_row_where_it_does_not_fit(self):
        fits = {"still": ("by",), "trial": ("given",), "again": ("trial",), "away": ("still", "given", "trial"),
                "gone": ("by", "still", "given", "trial")}
        first = {"still": "begin", "trial": "try_out", "again": "go_on", "away": "put_by", "gone": "end"}
        for word in SHORT:
            for phase in PHASES:
                if phase not in fits[word]:
                    self.assert_walk(
                        works_in(phase), [(word, "jo")], [],
                        (0, (first[word], "jo"), "NotNow", ["jo"]))
            for works in (Works(), small_works(), works_in("given")):
                self.assert_walk(works, [(word, "al")], [], (0, (first[word], "al"), "Lacks", ["al"]))

    def test_a_whole_day(self):
        rows = [("ask", "jo", "ann", ["r"]), ("still", "jo"), ("sign_on", "jo", "bo"), ("sign_off", "jo", "bo"),
                ("trial", "jo"), ("again", "jo"), ("away", "jo"), ("still", "jo"), ("gone", "jo"), ("add_room", "z"),
                ("gone", "jo")]
        away = [("step", "jo")] * 3
        every = (
            self.at(0, [rows[0]]) + self.at(1, self.STILL) + self.at(2, [rows[2]]) + self.at(3, [rows[3]])
            + self.at(4, [("try_out", "jo")] + away) + self.at(5, [("go_on", "jo")] + away + [("give", "jo")])
            + self.at(6, [("put_by", "jo")] + away) + self.at(7, self.STILL) + self.at(8, [("end", "jo")] + away)
            + self.at(9, [rows[9]]))
        self.assert_walk(small_works(), rows, every, (10, ("end", "jo"), "Lacks", ["jo"]))
        self.assert_walk(small_works(), rows[:10], every, None)

    def test_the_clash_is_the_first_deed(self):
        works = works_in("given")
        works.sign_on("jo", "bo")
        for word, first in (("trial", "try_out"), ("away", "put_by"), ("gone", "end")):
            self.assert_walk(
                works, [("add_room", "z"), (word, "jo"), ("add_room", "y")], [(0, ("add_room", "z"))],
                (1, (first, "jo"), "Held", ["bo"]))
        works = works_of(*SMALL, "ask jo ann p")
        self.assert_walk(works, [("still", "jo")], [], (0, ("begin", "jo"), "NoPart", ["p"]))

    def test_the_clash_is_one_of_the_steps(self):
        works = works_in("by")
        done(works, "turn d shut", "stick d")
        rows = [("still", "jo"), ("add_room", "z")]
        # What stands there already needn't move.
        self.assert_walk(works, rows, self.at(0, self.STILL) + [(1, rows[1])], None)
        works = works_in("given")
        done(works, "stick d", "try_out jo", "step jo")
        self.assert_walk(
            works, [("away", "jo")], self.at(0, [("put_by", "jo"), ("step", "jo")]),
            (0, ("step", "jo"), "Stuck", ["d"]))
        self.assert_walk(
            works, [("gone", "jo")], self.at(0, [("end", "jo"), ("step", "jo")]), (0, ("step", "jo"), "Stuck", ["d"]))

    def test_a_step_held_by_others(self):
        works = works_in("given")
        done(works, "ask al eve r", "begin al")
        steps_done(works, "al")
        self.assert_walk(works, [("trial", "jo")], [(0, ("try_out", "jo"))], (0, ("step", "jo"), "Held", ["eve"]))
        works = works_in("trial")
        steps_done(works, "jo")
        done(works, "ask al eve r")
        self.assert_walk(
            works, [("add_room", "z"), ("still", "al")], [(0, ("add_room", "z")), (1, ("begin", "al"))],
            (1, ("step", "al"), "Held", ["ann"]))

    def test_the_clash_is_the_giving(self):
        works = small_works()
        done(works, "stick v", "stick w", "ask jo ann t")
        rows = [("add_room", "z"), ("still", "jo"), ("add_room", "y")]
        self.assert_walk(
            works, rows, [(0, rows[0])] + self.at(1, [("begin", "jo"), ("step", "jo"), ("step", "jo")]),
            (1, ("give", "jo"), "NotDry", ["s", "t"]))

    def test_again_may_not_be_given(self):
        works = works_of("add_room p", "add_room q", "add_source p", "add_line a p q 1", "add_drain u q",
                         "ask jo ann q")
        rows = [("still", "jo"), ("trial", "jo"), ("take_drain", "u"), ("again", "jo")]
        told = walk_day(works, rows)
        self.assertEqual(told[1], (2, ("take_drain", "u"), "Held", ["ann"]))
        works = works_in("trial")
        steps_done(works, "jo")
        done(works, "stick u")
        self.assert_walk(
            works, [("again", "jo")], self.at(0, [("go_on", "jo"), ("step", "jo"), ("step", "jo")]),
            (0, ("step", "jo"), "Stuck", ["u"]))

    def test_forty_rows(self):
        rows = [("stick", "a"), ("mend", "a")] * 20
        self.assert_walk(small_works(), rows, list(enumerate(rows)), None)
        rows = [("still", "jo"), ("away", "jo")] * 20
        told = walk_day(works_in("by"), rows)
        self.assertEqual((len(told[0]), told[1]), (20 * 9, None))
        self.assertEqual([at for at, _ in told[0]], sorted(at for at, _ in told[0]))

    def test_full_works(self):
        works = full_works()
        rows = [(word, job) for job in works.jobs() for word in ("still", "trial", "again", "away", "gone")]
        told = walk_day(works, rows)
        self.assertEqual(told, walked_by_hand(works, rows))
        self.assert_it_can_be_done(works, *told)


class ListsTest(DayTest):
    def test_deeds_that_are_told_are_the_askers_own(self):
        works = small_works()
        rows = [("ask", "jo", "ann", ["r", "q"]), ("ask", "al", "eve", ["t"])]
        for rows in (rows, rows + [("ask", "jo", "ann", ["r"])], [rows[0], ("end", "jo"), rows[0]]):
            handed = kept(rows)
            every, clash = walk_day(works, rows)
            due = kept((every, clash))
            for _, deed in every + ([clash[:2]] if clash else []):
                if deed[0] == "ask":
                    self.assertIs(type(deed[3]), list)
                    deed[3].append("zz")
            if clash:
                clash[3].append("zz")
            self.assertEqual(rows, handed)
            self.assertEqual(walk_day(works, rows), due)
            every.clear()
            self.assertEqual(walk_day(works, rows), due)

    def test_one_row_twice_is_told_with_two_lists(self):
        row = ("ask", "jo", "ann", ["r"])
        every, _ = walk_day(small_works(), [row, ("end", "jo"), row])
        every[0][1][3].append("zz")
        self.assertEqual(every[2], (2, ("ask", "jo", "ann", ["r"])))

    def test_lists_that_were_handed_in_are_changed_behind_the_call(self):
        works = small_works()
        rooms = ["r"]
        rows = [("ask", "jo", "ann", rooms), ("still", "jo")]
        every, clash = walk_day(works, rows)
        due = kept(every)
        rooms.append("q")
        rows.clear()
        self.assertEqual((every, clash), (due, None))
        self.assertEqual(works.jobs(), [])


class ChanceTest(DayTest):
    def row(self, chance, pool, works):
        if chance.random() < 0.5:
            return chance.choice(SHORT), chance.choice(pool.jobs + works.jobs() * 2)
        return pool.deed(chance, works)

    def test_days_by_chance(self):
        to_the_end = clashed = 0
        for seed in range(60):
            chance = random.Random(seed)
            pool = Pool(5, 6, 3, 3, 4)
            works = Works()
            for deed in pool.layout_deeds(chance, 6, 3):
                answer_to(works, deed)
            for _ in range(12):
                rows = [self.row(chance, pool, works) for _ in range(chance.randint(0, 6))]
                every, clash = walk_day(works, rows)
                self.assert_walk(works, rows, every, clash)
                to_the_end += clash is None
                clashed += clash is not None and len(every) > 1
                for _, deed in every[:chance.randint(0, len(every))]:
                    answer_to(works, deed)
        self.assertGreater(to_the_end, 20)
        self.assertGreater(clashed, 20)


class DoorsTest(DayTest):
    def assert_wrong(self, at, works, rows):
        told = (lambda: all_told_of_works(works)) if type(works) is Works else list
        self.assert_refused(told, (Wrong, at), walk_day, works, rows)

    def test_no_works(self):
        for thing in strange_things() + [Works, Layout(), small_works().board(), "works", 0]:
            self.assert_wrong(0, thing, [])
            self.assert_wrong(0, thing, [("add_room", "P")])
            self.assert_wrong(0, thing, thing)

    def test_no_day(self):
        works = small_works()
        for thing in strange_things() + ["", "still jo", 0, 40]:
            if thing != []:
                self.assert_wrong(1, works, thing)
            self.assert_wrong(1, works, [("stick", "a"), thing])
        for rows in (("stick", "a"), (("stick", "a"),), {("stick", "a"): True}, [["stick", "a"]], [[("stick", "a")]]):
            self.assert_wrong(1, works, rows)

    def test_rows_that_are_none(self):
        works = Works()
        for deed in spoilt_deeds()[::7] + [("still",), ("still", "Jo"), ("given", "jo"), ["still", "jo"]]:
            self.assert_wrong(1, works, [deed])
            self.assert_wrong(1, works, [("add_room", "p"), ("still", "jo"), deed])
            self.assert_wrong(1, works, [deed] + [fitting_deed(word) for word in WANTED])

    def test_one_and_forty_rows(self):
        works = small_works()
        for row in (("stick", "a"), ("still", "jo")):
            self.assert_wrong(1, works, [row] * 41)
            self.assert_wrong(1, works, [row] * 42)
            self.assert_wrong(1, works, [row] * 40 + [None])
            self.assertEqual(len(walk_day(works, [("stick", "a")] * 40)[0]), 40)


if __name__ == "__main__":
    unittest.main()
