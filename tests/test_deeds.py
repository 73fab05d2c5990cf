"""Points 43 and 44: deeds, and the answers to them."""

import copy
import itertools
import unittest

from deedlists import DEEDS_AND_TEXTS, FITTING, WANTED, fitting_deed, not_deeds, spoilt_deeds
from plainworks import PlainWorks, lot_by_trying
from refusing import FIELD, RefusingTest
from samples import strange_things
from stillmain import deeds as module
from stillmain.deeds import answer_to, do_deed, is_deed, read_deed, show_deed
from stillmain.errors import (
    Held, InUse, Lacks, MainsError, NoPart, NotDry, NotNow, Stuck, There, TooMany, Wrong)
from stillmain.layout import Layout
from stillmain.works import Works
from workses import (
    SMALL, all_told_of_works, done, full_works, given_works, small_works, steps_done, works_in, works_of)

# One that is let by for each word, at the works that the rows ahead of it have made.
RUN = (
    (("add_room", "p"), None), (("add_room", "q"), None), (("add_room", "r"), None),
    (("add_source", "p"), None), (("add_line", "a", "p", "q", 3), None), (("add_line", "b", "q", "r", 0), None),
    (("add_drain", "u", "q"), None), (("turn", "a", "shut"), None), (("turn", "a", "open"), None),
    (("stick", "u"), None), (("mend", "u"), None), (("ask", "jo", "ann", ["q", "r"]), None), (("begin", "jo"), None),
    (("step", "jo"), ("a", "shut")), (("step", "jo"), ("u", "open")), (("give", "jo"), None),
    (("sign_on", "jo", "bo"), None), (("hand_over", "jo", "bo", "cy"), None), (("relieve", "cy", "dee"), None),
    (("sign_off", "jo", "ann"), None), (("try_out", "jo"), None), (("step", "jo"), ("u", "shut")),
    (("go_on", "jo"), None), (("step", "jo"), ("u", "open")), (("put_by", "jo"), None),
    (("step", "jo"), ("u", None)), (("step", "jo"), ("a", None)), (("end", "jo"), None), (("take_line", "b"), None),
    (("take_drain", "u"), None), (("take_source", "p"), None), (("take_room", "r"), None))


class IsDeedTest(unittest.TestCase):
    def test_defined_in_its_file(self):
        for one in (is_deed, do_deed, answer_to, show_deed, read_deed):
            self.assertEqual(one.__module__, "stillmain.deeds")
            self.assertIs(getattr(module, one.__name__), one)

    def test_each_word_with_all_that_fits(self):
        self.assertEqual(len(WANTED), 23)
        for word, wants in WANTED.items():
            for things in itertools.product(*[FITTING[want] for want in wants]):
                alike = word == "add_line" and things[1] == things[2]
                self.assertIs(is_deed((word,) + things), not alike, (word, things))

    def test_the_deeds_of_the_table(self):
        for deed, _ in DEEDS_AND_TEXTS:
            self.assertIs(is_deed(deed), True, deed)
        for deed, _ in RUN:
            self.assertIs(is_deed(deed), True, deed)

    def test_spoilt_at_each_place(self):
        for deed in spoilt_deeds():
            self.assertIs(is_deed(deed), False, deed)

    def test_things_of_all_kinds(self):
        for thing in not_deeds():
            self.assertIs(is_deed(thing), False, thing)

    def test_asking_changes_nothing(self):
        rooms = ["q", "p"]
        deed = ("ask", "jo", "ann", rooms)
        self.assertIs(is_deed(deed), True)
        self.assertEqual(rooms, ["q", "p"])
        rooms.append("q")
        self.assertIs(is_deed(deed), False)


class DoDeedTest(unittest.TestCase):
    def test_each_word(self):
        self.assertEqual({deed[0] for deed, _ in RUN}, set(WANTED))
        works, beside = Works(), Works()
        for deed, told in RUN:
            handed = copy.deepcopy(deed)
            self.assertEqual(do_deed(works, deed), told, deed)
            self.assertEqual(getattr(beside, deed[0])(*deed[1:]), told, deed)
            self.assertEqual(all_told_of_works(works), all_told_of_works(beside), deed)
            self.assertEqual(deed, handed)

    def test_refused_as_the_method_refuses(self):
        for deed, kind, kept in (
                (("add_room", "p"), There, "p"), (("take_room", "p"), InUse, "p"),
                (("turn", "c", "open"), Held, ["ann", "dee"]),
                (("begin", "bo"), NoPart, ["p"]), (("step", "jo"), NotNow, "jo"), (("relieve", "x", "y"), Lacks, "x")):
            works = given_works()
            ahead = all_told_of_works(works)
            for _ in range(2):
                with self.assertRaises(MainsError) as caught:
                    do_deed(works, deed)
                self.assertIs(type(caught.exception), kind)
                self.assertEqual(getattr(caught.exception, FIELD[kind]), kept)
                self.assertEqual(all_told_of_works(works), ahead)

    def test_the_rooms_of_ask_are_the_askers_own(self):
        works, rooms = small_works(), ["r", "q"]
        deed = ("ask", "jo", "ann", rooms)
        do_deed(works, deed)
        rooms.clear()
        self.assertEqual(works.stretch("jo"), ["r", "q"])
        works.stretch("jo").append("p")
        self.assertEqual(deed, ("ask", "jo", "ann", []))


class AnswersTest(RefusingTest):
    def assert_answer(self, works, deed, due):
        """A refused deed is answered so, twice alike, and changes nothing."""
        ahead = all_told_of_works(works)
        for _ in range(2):
            told = answer_to(works, deed)
            self.assertEqual(told, due)
            self.assertIs(type(told), tuple)
            if due[0] == "refused":
                self.assertEqual([type(one) for one in told], [str, str, list])
                self.assertEqual([type(one) for one in told[2]], [type(one) for one in due[2]])
                self.assertEqual(all_told_of_works(works), ahead)
                # The list is the asker's own.
                told[2].append("zz")
                told[2].reverse()
                self.assertEqual(all_told_of_works(works), ahead)

    def test_done(self):
        works, beside = Works(), Works()
        for deed, told in RUN:
            answer = answer_to(works, deed)
            self.assertEqual(answer, ("done", told))
            self.assertEqual([type(answer), type(answer[1])], [tuple, type(told)])
            do_deed(beside, deed)
            self.assertEqual(all_told_of_works(works), all_told_of_works(beside))

    def test_of_each_refusal(self):
        works = given_works()
        for deed, due in (
                (("add_room", "p"), ("refused", "There", ["p"])),
                (("add_line", "u", "p", "q", 1), ("refused", "There", ["u"])),
                (("add_source", "p"), ("refused", "There", ["p"])),
                (("ask", "jo", "ann", ["z"]), ("refused", "There", ["jo"])),
                (("sign_on", "jo", "dee"), ("refused", "There", ["dee"])),
                (("relieve", "ann", "dee"), ("refused", "There", ["dee"])),
                (("take_room", "z"), ("refused", "Lacks", ["z"])),
                (("turn", "u", "open"), ("refused", "Lacks", ["u"])),
                (("begin", "x"), ("refused", "Lacks", ["x"])),
                (("sign_off", "jo", "x"), ("refused", "Lacks", ["x"])),
                (("take_room", "q"), ("refused", "InUse", ["q"])),
                (("turn", "d", "open"), ("refused", "Held", ["ann", "dee"])),
                (("take_line", "d"), ("refused", "Held", ["ann", "dee", "eve"])),
                (("end", "jo"), ("refused", "Held", ["dee"])),
                (("begin", "bo"), ("refused", "NoPart", ["p"])),
                (("step", "bo"), ("refused", "NotNow", ["bo"])),
                (("give", "al"), ("refused", "NotNow", ["al"]))):
            self.assert_answer(works, deed, due)

    def test_stuck(self):
        works = given_works()
        done(works, "step al", "stick f")
        self.assert_answer(works, ("step", "al"), ("refused", "Stuck", ["f"]))
        self.assert_answer(works, ("turn", "f", "shut"), ("refused", "Stuck", ["f"]))

    def test_not_dry(self):
        works = small_works()
        done(works, "stick v", "stick w", "ask jo ann t", "begin jo")
        steps_done(works, "jo")
        self.assert_answer(works, ("give", "jo"), ("refused", "NotDry", ["s", "t"]))

    def test_no_part_with_its_way(self):
        works = small_works()
        done(works, "add_line z p q 0", "ask jo ann r", "stick c")
        self.assert_answer(works, ("begin", "jo"), ("refused", "NoPart", ["p", "z", "q", "c", "r"]))

    def test_too_many(self):
        works = full_works()
        room, other = works.layout().rooms()[:2]
        for deed, most in ((("add_room", "z"), 24), (("add_line", "z", room, other, 1), 40),
                           (("add_drain", "z", room), 12), (("ask", "z", "ann", [room]), 8)):
            self.assert_answer(works, deed, ("refused", "TooMany", [most]))
        works = works_in("given")
        for hand in "bcdef":
            works.sign_on("jo", hand)
        self.assert_answer(works, ("sign_on", "jo", "g"), ("refused", "TooMany", [6]))

    def test_beside_the_method_itself(self):
        deeds = [deed for deed, _ in DEEDS_AND_TEXTS] + [fitting_deed(word) for word in WANTED]
        for works in (Works(), small_works(), given_works(), works_in("trial"), works_in("away")):
            for deed in deeds:
                twin, beside = works.copied(), works.copied()
                try:
                    due = ("done", getattr(beside, deed[0])(*deed[1:]))
                except MainsError as refusal:
                    thing = getattr(refusal, FIELD[type(refusal)])
                    due = ("refused", type(refusal).__name__, thing if type(thing) is list else [thing])
                self.assertEqual(answer_to(twin, deed), due)
                self.assertEqual(all_told_of_works(twin), all_told_of_works(beside))

    def test_beside_plain_notes(self):
        works, plain = Works(), PlainWorks(lot_by_trying)
        for deed, told in [(read_deed(row), None) for row in SMALL] + list(RUN):
            self.assertEqual(answer_to(works, deed), plain.answer(copy.deepcopy(deed)))
            self.assertEqual(all_told_of_works(works), plain.told())

    def test_what_is_handed_in_stays(self):
        works = works_of(*SMALL)
        rooms = ["r", "q"]
        deed = ("ask", "jo", "ann", rooms)
        self.assertEqual(answer_to(works, deed), ("done", None))
        self.assertEqual(deed, ("ask", "jo", "ann", ["r", "q"]))
        rooms.append("z")
        self.assertEqual(works.stretch("jo"), ["r", "q"])


class DoorsTest(RefusingTest):
    def assert_wrong(self, at, works, deed):
        told = (lambda: all_told_of_works(works)) if type(works) is Works else list
        self.assert_refused(told, (Wrong, at), answer_to, works, deed)

    def test_no_works(self):
        for thing in strange_things() + [Works, Layout(), small_works().layout(), Works.step, "works", 0]:
            self.assert_wrong(0, thing, ("add_room", "p"))
            self.assert_wrong(0, thing, "add_room p")
            self.assert_wrong(0, thing, thing)

    def test_no_deed(self):
        works = Works()
        for thing in not_deeds():
            self.assert_wrong(1, works, thing)
        works = given_works()
        for thing in spoilt_deeds()[::23] + [("add_line", "a", "z", "z", 1), ("ask", "jo", "ann", ["z", "z"])]:
            self.assert_wrong(1, works, thing)

    def test_each_refusal_is_answered_but_wrong(self):
        for kind in (There, Lacks, InUse, Held, Stuck, NoPart, NotNow, NotDry, TooMany):
            self.assertTrue(issubclass(kind, MainsError))
        with self.assertRaises(Wrong):
            answer_to(Works(), ("add_room", "P"))


if __name__ == "__main__":
    unittest.main()
