"""Point 41: a copied works is alike and goes on by itself."""

import unittest

from stillmain.errors import Held, InUse, Lacks, NoPart, NotDry, NotNow, Stuck, There, TooMany
from stillmain.works import Works
from workses import all_told_of_works, called, done, full_works, given_works, small_works, steps_done, works_in

# Each is let by at the given works, and changes it.
DEEDS = (
    "add_room z", "add_line z p q 4", "add_line z s t 0", "add_drain z p", "add_source q", "take_line b",
    "take_line e", "take_drain x", "take_source p", "turn a shut", "stick b", "ask di ann p", "begin bo",
    "step al", "end bo", "end al", "put_by al", "sign_on jo bo", "sign_off jo ann", "hand_over jo ann bo",
    "relieve ann bo", "relieve eve ann")


class CopiedTest(unittest.TestCase):
    def all_works(self):
        return [Works(), small_works(), given_works(), full_works()] + [
            works_in(phase) for phase in ("by", "still", "given", "trial", "away")]

    def given_works(self):
        """The given works, with a job in the stretch q that can be begun."""
        works = given_works()
        done(works, "end bo", "ask bo cy q")
        return works

    def test_a_copy_is_alike(self):
        for works in self.all_works():
            twin = works.copied()
            self.assertIs(type(twin), Works)
            self.assertIsNot(twin, works)
            self.assertEqual(all_told_of_works(twin), all_told_of_works(works))

    def test_each_goes_on_by_itself(self):
        for deed in DEEDS:
            works = self.given_works()
            twin = works.copied()
            ahead = all_told_of_works(works)
            called(twin, deed)
            self.assertEqual(all_told_of_works(works), ahead, deed)
            changed = all_told_of_works(twin)
            self.assertNotEqual(changed, ahead, deed)
            called(works, deed)
            self.assertEqual(all_told_of_works(works), changed, deed)
            self.assertEqual(all_told_of_works(twin), changed, deed)

    def test_the_first_goes_on_by_itself(self):
        for deed in DEEDS:
            works = self.given_works()
            twin = works.copied()
            ahead = all_told_of_works(twin)
            called(works, deed)
            self.assertEqual(all_told_of_works(twin), ahead, deed)
            self.assertNotEqual(all_told_of_works(works), ahead, deed)

    def test_a_job_in_each_phase_goes_on_by_itself(self):
        rest = {"by": ("begin jo", "step jo"), "still": ("step jo", "put_by jo"), "given": ("try_out jo",),
                "trial": ("step jo", "put_by jo"), "away": ("step jo",)}
        for phase, rows in rest.items():
            works = works_in(phase)
            twin = works.copied()
            ahead = all_told_of_works(works)
            done(twin, *rows)
            steps_done(twin, "jo")
            self.assertEqual(all_told_of_works(works), ahead)
            self.assertNotEqual(all_told_of_works(twin), ahead)
            done(works, *rows)
            steps_done(works, "jo")
            self.assertEqual(all_told_of_works(works), all_told_of_works(twin))

    def test_a_job_that_ends_at_one(self):
        works = works_in("given")
        done(works, "end jo", "step jo")
        twin = works.copied()
        self.assertEqual(steps_done(twin, "jo"), [("d", None), ("c", None)])
        self.assertEqual((twin.jobs(), works.jobs()), ([], ["jo"]))
        twin.ask("jo", "eve", ["t"])
        self.assertEqual((twin.crew_at("jo"), works.crew_at("jo")), (["eve"], ["ann"]))
        self.assertEqual(steps_done(works, "jo"), [("d", None), ("c", None)])

    def test_copies_of_copies(self):
        every = [self.given_works()]
        told = [all_told_of_works(every[0])]
        for deed in ("add_room z", "turn a shut", "step al", "sign_on jo bo", "begin bo", "step bo", "end bo"):
            every.append(every[-1].copied())
            called(every[-1], deed)
            told.append(all_told_of_works(every[-1]))
        self.assertEqual([all_told_of_works(works) for works in every], told)
        for at, one in enumerate(told):
            self.assertNotIn(one, told[at + 1:])

    def test_what_is_wet_goes_on_by_itself(self):
        works = small_works()
        twin = works.copied()
        done(twin, "turn c shut", "turn d shut", "ask jo ann r", "begin jo")
        steps_done(twin, "jo")
        self.assertEqual((works.wet(), twin.wet()), (["p", "q", "r", "s", "t"], ["p", "q", "s", "t"]))

    def test_a_copy_refuses_alike(self):
        works = self.given_works()
        done(works, "stick u", "sign_off jo dee", "put_by jo")
        twin = works.copied()
        ahead = all_told_of_works(twin)
        for refusal, row in (
                (There, "add_room p"), (Lacks, "take_room z"), (InUse, "take_room p"), (Held, "take_line c"),
                (Held, "add_source r"), (Held, "add_line z r p 1"), (Stuck, "step jo"), (NotNow, "give jo"),
                (There, "ask jo ann z"), (NotNow, "begin al")):
            with self.assertRaises(refusal):
                called(twin, row)
            self.assertEqual(all_told_of_works(twin), ahead)
        with self.assertRaises(TooMany):
            full_works().copied().ask("z", "ann", full_works().layout().rooms()[:1])
        works = small_works()
        done(works, "stick v", "stick w", "ask jo ann t", "begin jo", "ask al eve p")
        steps_done(works, "jo")
        with self.assertRaises(NotDry):
            works.copied().give("jo")
        with self.assertRaises(NoPart):
            works.copied().begin("al")


if __name__ == "__main__":
    unittest.main()
