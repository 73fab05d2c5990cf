"""Point 54: the permits of a works, and whether they still hold."""

import random
import unittest

from chancedeeds import Pool
from refusing import RefusingTest
from samples import not_names, strange_things
from stillmain.deeds import answer_to
from stillmain.errors import Lacks, NotNow, Wrong
from stillmain.layout import Layout
from stillmain.permit import Permit, holds_still, permit_of, permits_of
from stillmain.works import Works
from workses import all_told_of_works, done, given_works, small_works, steps_done, works_in, works_of


def four_works():
    """Four jobs in parts of their own: zoe, al and mo given, kim tried out; ann holds zoe and mo."""
    works = works_of("add_room p", "add_source p")
    for job, hand in (("zoe", "ann"), ("al", "bo"), ("mo", "ann"), ("kim", "ann")):
        done(works, f"add_room {job}", f"add_line a{job} p {job} 1", f"add_drain u{job} {job}",
             f"ask {job} {hand} {job}", f"begin {job}")
        steps_done(works, job)
        done(works, f"give {job}")
    done(works, "try_out kim", "sign_on al ann", "sign_on zoe bo")
    return works


class PermitsTest(RefusingTest):
    def assert_not_told(self, works, refusal, call, *handed):
        self.assert_refused(lambda: all_told_of_works(works), refusal, call, works, *handed)

    def assert_holds(self, works, permit, due):
        ahead, row = all_told_of_works(works), str(permit)
        for _ in range(2):
            self.assertIs(holds_still(works, permit), due)
        self.assertEqual((all_told_of_works(works), str(permit)), (ahead, row))


class PermitOfTest(PermitsTest):
    def test_as_the_works_has_it(self):
        works = given_works()
        permit = permit_of(works, "jo")
        self.assertIs(type(permit), Permit)
        self.assertEqual(str(permit), "jo : ann dee : r : c d : u")
        self.assertEqual((permit.called(), permit.crew_now()), ("jo", works.crew_at("jo")))
        self.assertEqual((permit.switches(), permit.side(), permit.drains()), works.lot("jo"))
        self.assertEqual(permit, Permit("jo", ["ann", "dee"], ["r"], ["c", "d"], ["u"]))

    def test_of_a_larger_side_and_of_none(self):
        works = small_works()
        done(works, "ask al eve t q r", "begin al")
        steps_done(works, "al")
        done(works, "give al")
        self.assertEqual(str(permit_of(works, "al")), "al : eve : q r s t : a b : u v w x")
        works = works_of("add_room p", "ask jo ann p", "begin jo", "give jo")
        self.assertEqual(str(permit_of(works, "jo")), "jo : ann : p : - : -")
        self.assertIs(bool(permit_of(works, "jo")), False)

    def test_in_each_phase(self):
        for phase in ("by", "still", "given", "trial", "away"):
            works = works_in(phase)
            if phase == "given":
                self.assertEqual(str(permit_of(works, "jo")), "jo : ann : r : c d : u")
            else:
                self.assert_not_told(works, (NotNow, "jo"), permit_of, "jo")
            self.assert_not_told(works, (Lacks, "al"), permit_of, "al")
        done(works, "step jo", "step jo", "step jo", "end jo")
        self.assert_not_told(works, (Lacks, "jo"), permit_of, "jo")

    def test_one_that_is_kept_changes_no_more(self):
        works = given_works()
        permit = permit_of(works, "jo")
        row = str(permit)
        for rows in (("sign_on jo zed",), ("relieve ann flo",), ("sign_off jo dee", "sign_off jo zed"), ("end jo",)):
            done(works, *rows)
            self.assertEqual(str(permit), row)
        steps_done(works, "jo")
        self.assertEqual((str(permit), repr(permit)), (row, f"Permit({row})"))
        self.assertEqual((permit.crew_now(), permit.side(), len(permit)), (["ann", "dee"], ["r"], 2))


class PermitsOfTest(PermitsTest):
    def told(self, *handed, **named):
        permits = permits_of(*handed, **named)
        self.assertIs(type(permits), list)
        return [permit.called() for permit in permits]

    def test_all_by_the_names_of_the_jobs(self):
        works = four_works()
        for told in (permits_of(works), permits_of(works, None), permits_of(works, holder=None)):
            self.assertEqual([str(permit) for permit in told], [
                "al : bo ann : al : aal : ual", "mo : ann : mo : amo : umo", "zoe : ann bo : zoe : azoe : uzoe"])
            self.assertEqual(told, [permit_of(works, job) for job in ("al", "mo", "zoe")])

    def test_of_a_holder(self):
        works = four_works()
        for hand, jobs in (("ann", ["mo", "zoe"]), ("bo", ["al"]), ("eve", []), ("al", []), ("mo", [])):
            self.assertEqual(self.told(works, hand), jobs)
            self.assertEqual(self.told(works, holder=hand), jobs)
        done(works, "sign_off al bo")
        self.assertEqual(self.told(works, "ann"), ["al", "mo", "zoe"])
        self.assertEqual(self.told(works, "bo"), [])
        done(works, "relieve ann eve")
        self.assertEqual(self.told(works, holder="eve"), ["al", "mo", "zoe"])

    def test_of_none(self):
        self.assertEqual(permits_of(Works()), [])
        self.assertEqual(permits_of(small_works(), holder="ann"), [])
        for phase in ("by", "still", "trial", "away"):
            self.assertEqual(permits_of(works_in(phase)), [])
        self.assertEqual(self.told(works_in("given")), ["jo"])

    def test_the_list_is_the_askers_own(self):
        works = four_works()
        ahead = all_told_of_works(works)
        permits = permits_of(works)
        permits[0].crew_now().append("zz")
        permits[0].side().append("zz")
        permits.clear()
        self.assertEqual(self.told(works), ["al", "mo", "zoe"])
        self.assertEqual(all_told_of_works(works), ahead)


class HoldsStillTest(PermitsTest):
    def test_as_long_as_it_is_told_alike(self):
        works = given_works()
        permit = permit_of(works, "jo")
        self.assert_holds(works, permit, True)
        for rows in (("turn a shut",), ("add_room z",), ("step al",), ("stick u",), ("ask di flo t",)):
            done(works, *rows)
            self.assert_holds(works, permit, True)
        # It need not be the one that was told.
        self.assert_holds(works, Permit("jo", ["ann", "dee"], ["r"], ["c", "d"], ["u"]), True)

    def test_behind_changes_of_the_crew(self):
        works = given_works()
        permit = permit_of(works, "jo")
        done(works, "sign_on jo bo")
        self.assert_holds(works, permit, False)
        self.assert_holds(works, permit_of(works, "jo"), True)
        done(works, "sign_off jo bo")
        self.assert_holds(works, permit, True)
        done(works, "sign_off jo ann", "sign_on jo ann")
        # The same hands in another order.
        self.assert_holds(works, permit, False)
        done(works, "hand_over jo dee x", "hand_over jo ann dee", "hand_over jo x ann")
        self.assert_holds(works, permit, True)
        done(works, "relieve ann eve")
        self.assert_holds(works, permit, False)

    def test_behind_a_trial_and_given_again(self):
        works = works_in("given")
        permit = permit_of(works, "jo")
        for row, due in (("try_out jo", False), ("step jo", False), ("go_on jo", False), ("step jo", False),
                         ("give jo", True), ("put_by jo", False)):
            done(works, row)
            self.assert_holds(works, permit, due)
        steps_done(works, "jo")
        self.assert_holds(works, permit, False)
        done(works, "begin jo")
        self.assert_holds(works, permit, False)
        steps_done(works, "jo")
        self.assert_holds(works, permit, False)
        done(works, "give jo")
        self.assert_holds(works, permit, True)

    def test_given_again_with_another_lot(self):
        works = works_in("given")
        permit = permit_of(works, "jo")
        done(works, "put_by jo")
        steps_done(works, "jo")
        done(works, "add_drain uu r", "begin jo")
        steps_done(works, "jo")
        done(works, "give jo")
        self.assertEqual(str(permit_of(works, "jo")), "jo : ann : r : c d : u uu")
        self.assert_holds(works, permit, False)

    def test_behind_its_end_and_with_a_new_job_of_its_name(self):
        works = works_in("given")
        permit = permit_of(works, "jo")
        done(works, "end jo")
        self.assert_holds(works, permit, False)
        steps_done(works, "jo")
        self.assert_holds(works, permit, False)
        for hand, due in (("ann", True), ("bo", False)):
            done(works, f"ask jo {hand} r", "begin jo")
            self.assert_holds(works, permit, False)
            steps_done(works, "jo")
            done(works, "give jo")
            self.assert_holds(works, permit, due)
            done(works, "end jo")
            steps_done(works, "jo")

    def test_at_another_works(self):
        permit = permit_of(works_in("given"), "jo")
        self.assert_holds(works_in("given"), permit, True)
        self.assert_holds(given_works(), permit, False)
        for works in (Works(), small_works(), works_in("by"), works_in("still")):
            self.assert_holds(works, permit, False)

    def test_unlike_in_each_of_the_five(self):
        works = given_works()
        parts = ("jo", ["ann", "dee"], ["r"], ["c", "d"], ["u"])
        self.assert_holds(works, Permit(*parts), True)
        for at, part in ((0, "al"), (0, "x"), (1, ["ann"]), (1, ["dee", "ann"]), (2, ["q"]), (2, []), (3, ["c"]),
                         (3, ["d", "c"]), (4, []), (4, None), (4, ["u", "v"])):
            others = list(parts)
            others[at] = part
            self.assert_holds(works, Permit(*others), False)

    def test_one_without_switches(self):
        works = works_of("add_room p", "ask jo ann p", "begin jo", "give jo")
        self.assert_holds(works, permit_of(works, "jo"), True)
        self.assertEqual(len(permits_of(works)), 1)

    def test_over_deeds_by_chance(self):
        held = let_go = 0
        for seed in range(6):
            chance, works, kept = random.Random(seed), Works(), []
            pool = Pool(5, 7, 3, 3, 4)
            for deed in pool.layout_deeds(chance, 5, 3):
                answer_to(works, deed)
            for _ in range(300):
                answer_to(works, pool.deed(chance, works))
                given = [job for job in works.jobs() if works.phase(job) == "given"]
                self.assertEqual([permit.called() for permit in permits_of(works)], given)
                rows = []
                for job in given:
                    switches, side, drains = works.lot(job)
                    permit = Permit(job, works.crew_at(job), side, switches, drains)
                    self.assertEqual(permit_of(works, job), permit)
                    rows.append(str(permit))
                for permit in kept:
                    due = str(permit) in rows
                    self.assertIs(holds_still(works, permit), due)
                    held, let_go = held + due, let_go + (not due)
                kept = (kept + permits_of(works))[-6:]
        self.assertGreater(held, 50)
        self.assertGreater(let_go, 50)


class DoorsTest(PermitsTest):
    def test_no_works(self):
        permit = Permit("jo", ["ann"], ["r"], ["c"])
        for thing in strange_things() + [Works, Layout(), small_works().board(), permit, "works", 0]:
            for call, handed in ((permit_of, "jo"), (permits_of, "ann"), (permits_of, None), (holds_still, permit),
                                 (permit_of, "JO"), (permits_of, "ANN"), (holds_still, None)):
                self.assert_refused(list, (Wrong, 0), call, thing, handed)
            self.assert_refused(list, (Wrong, 0), permits_of, thing)

    def test_no_job_and_no_holder(self):
        works = given_works()
        for thing in not_names():
            self.assert_refused(works.jobs, (Wrong, 1), permit_of, works, thing)
            if thing is not None:
                self.assert_refused(works.jobs, (Wrong, 1), permits_of, works, thing)
                self.assert_refused(works.jobs, (Wrong, 1), lambda one: permits_of(one, holder=thing), works)
        self.assert_refused(works.jobs, (Wrong, 1), permit_of, works, None)

    def test_no_permit(self):
        works = given_works()
        row = str(permit_of(works, "jo"))
        parts = ("jo", ["ann", "dee"], ["r"], ["c", "d"], ["u"])
        for thing in strange_things() + [Permit, works, "jo", row, ["jo"], parts, list(parts)]:
            self.assert_refused(works.jobs, (Wrong, 1), holds_still, works, thing)
            self.assert_refused(works.jobs, (Wrong, 1), holds_still, Works(), thing)


if __name__ == "__main__":
    unittest.main()
