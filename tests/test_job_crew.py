"""Points 34 and 35: a job's crew, what it tells, and the copied job."""

import unittest

from boards import all_told_of
from jobs import PHASES, job_board, job_in, new_job, steps_done, told_of
from refusing import RefusingTest
from stillmain.board import Board
from stillmain.errors import Held, Lacks, NotNow, Stuck, There, TooMany
from stillmain.job import Job


class CrewTest(RefusingTest):
    def assert_not_let_by(self, board, job, refusal, call, *handed):
        self.assert_refused(lambda: told_of(board, job), refusal, getattr(job, call), *handed)

    def test_sign_on_to_the_sixth_and_beyond(self):
        board, job = job_in("given")
        hands = ["ann", "zed", "bo", "jo", "cy", "al"]
        for many in range(1, 6):
            job.sign_on(hands[many])
            self.assertEqual(job.crew_now(), hands[:many + 1])
            self.assertEqual(board.crew_of("jo"), hands[:many + 1])
            self.assertEqual(board.tags("u"), sorted(("jo", hand) for hand in hands[:many + 1]))
            for hand in hands[:many + 1]:
                self.assert_not_let_by(board, job, (There, hand), "sign_on", hand)
        for hand in ("eve", "x"):
            self.assert_not_let_by(board, job, (TooMany, 6), "sign_on", hand)

    def test_there_goes_ahead_of_too_many(self):
        board, job = job_in("given")
        for hand in ("b", "c", "d", "e", "f"):
            job.sign_on(hand)
        self.assert_not_let_by(board, job, (There, "f"), "sign_on", "f")
        self.assert_not_let_by(board, job, (TooMany, 6), "sign_on", "g")
        job.sign_off("b")
        job.sign_on("g")
        self.assertEqual(job.crew_now(), ["ann", "c", "d", "e", "f", "g"])

    def test_hands_of_other_jobs_may_sign_on(self):
        board, job = job_in("given")
        job.sign_on("eve")
        self.assertEqual(job.crew_now(), ["ann", "eve"])
        self.assertEqual(board.crew_of("al"), ["eve", "bo"])

    def test_sign_off_to_the_last(self):
        board, job = job_in("given")
        for hand in ("bo", "cy", "dee"):
            job.sign_on(hand)
        for hand, left in (("cy", ["ann", "bo", "dee"]), ("ann", ["bo", "dee"]), ("dee", ["bo"])):
            for other in ("x", "eve", "jo"):
                self.assert_not_let_by(board, job, (Lacks, other), "sign_off", other)
            job.sign_off(hand)
            self.assertEqual(job.crew_now(), left)
            self.assertEqual(board.tags("a"), sorted(("jo", other) for other in left))
        self.assert_not_let_by(board, job, (NotNow, "jo"), "sign_off", "bo")
        # Lacks goes ahead of it.
        for hand in ("ann", "cy", "dee"):
            self.assert_not_let_by(board, job, (Lacks, hand), "sign_off", hand)
        job.sign_on("ann")
        self.assertEqual(job.crew_now(), ["bo", "ann"])

    def test_hand_over_in_all_phases_but_ended(self):
        for phase in PHASES[:-1]:
            board, job = job_in(phase)
            ahead = told_of(board, job)
            self.assert_not_let_by(board, job, (Lacks, "bo"), "hand_over", "bo", "cy")
            self.assert_not_let_by(board, job, (Lacks, "bo"), "hand_over", "bo", "ann")
            self.assert_not_let_by(board, job, (Lacks, "bo"), "hand_over", "bo", "bo")
            self.assert_not_let_by(board, job, (There, "ann"), "hand_over", "ann", "ann")
            job.hand_over("ann", "bo")
            self.assertEqual(job.crew_now(), ["bo"])
            self.assertEqual(board.crew_of("jo"), ["bo"])
            self.assertEqual((job.phase(), job.steps()), (phase, ahead["steps"]))
            for device in board.held_by("jo"):
                self.assertEqual(board.tags(device), [("jo", "bo")])
            job.hand_over("bo", "ann")
            self.assertEqual(told_of(board, job), ahead)

    def test_hand_over_takes_the_place(self):
        board, job = job_in("given")
        for hand in ("bo", "cy", "dee", "eve", "flo"):
            job.sign_on(hand)
        job.hand_over("cy", "zed")
        self.assertEqual(job.crew_now(), ["ann", "bo", "zed", "dee", "eve", "flo"])
        job.hand_over("ann", "al")
        self.assertEqual(job.crew_now(), ["al", "bo", "zed", "dee", "eve", "flo"])
        job.hand_over("flo", "ann")
        self.assertEqual(job.crew_now(), ["al", "bo", "zed", "dee", "eve", "ann"])
        for one in job.crew_now():
            for other in job.crew_now():
                self.assert_not_let_by(board, job, (There, other), "hand_over", one, other)
        self.assert_not_let_by(board, job, (Lacks, "cy"), "hand_over", "cy", "al")

    def test_who_holds_what_others_want(self):
        board, job = job_in("given")
        job.sign_on("bo")
        self.assert_refused(lambda: told_of(board, job), (Held, ["ann", "bo"]), board.turn, "a", "open")
        job.hand_over("bo", "cy")
        self.assert_refused(lambda: told_of(board, job), (Held, ["ann", "cy"]), board.take, "u")


class ToldTest(RefusingTest):
    def test_of_an_ended_job(self):
        for phase in ("by", "still", "given", "trial"):
            board, job = job_in(phase)
            job.end()
            steps_done(job)
            self.assertEqual(told_of(board, job), {
                "board": all_told_of(job_board()), "called": "jo", "phase": "ended",
                "stretch": ["r", "q"], "switches": [], "drains": [], "crew_now": [], "steps": []})

    def test_lots_and_crews_in_each_phase(self):
        for phase in PHASES:
            board, job = job_in(phase)
            begun = phase not in ("by", "ended")
            self.assertEqual(job.switches(), ["b", "c", "a"] if begun else [])
            self.assertEqual(job.drains(), ["v", "u"] if begun else [])
            self.assertEqual(job.crew_now(), [] if phase == "ended" else ["ann"])
            self.assertEqual((job.called(), job.stretch(), job.phase()), ("jo", ["r", "q"], phase))

    def test_what_is_told_is_the_askers_own(self):
        for phase in PHASES:
            board, job = job_in(phase)
            ahead = told_of(board, job)
            for told in (job.stretch, job.switches, job.drains, job.crew_now, job.steps):
                for spoil in (list.clear, lambda one: one.append("x"), lambda one: one.insert(0, "y")):
                    spoil(told())
                    self.assertEqual(told_of(board, job), ahead)
                self.assertIsNot(told(), told())

    def test_asking_changes_nothing(self):
        for phase in PHASES:
            board, job = job_in(phase)
            self.assertEqual(told_of(board, job), told_of(board, job))


class CopiedTest(RefusingTest):
    def test_a_copy_is_alike_in_each_phase(self):
        for phase in PHASES:
            board, job = job_in(phase)
            beside = board.copied()
            twin = job.copied(beside)
            self.assertIs(type(twin), Job)
            self.assertIsNot(twin, job)
            self.assertEqual(told_of(beside, twin), told_of(board, job))

    def test_to_copy_changes_neither_board(self):
        for phase in PHASES:
            board, job = job_in(phase)
            beside, ahead = board.copied(), told_of(board, job)
            job.copied(beside)
            self.assertEqual(told_of(board, job), ahead)
            self.assertEqual(all_told_of(beside), all_told_of(board))

    def rest_of(self, board, job):
        """Go on from any phase to the end, and tell all that comes of it."""
        came = [told_of(board, job)]
        if job.phase() == "by":
            job.begin(["d", "a"], ["u"])
        if job.phase() == "trial":
            job.go_on()
        if job.phase() == "still":
            came.append(steps_done(job))
            job.give()
            job.sign_on("zed")
            job.hand_over("ann", "bo")
            came.append(told_of(board, job))
            job.sign_off("bo")
        came.append(steps_done(job))
        if job.phase() not in ("by", "ended"):
            job.end()
            came.append(steps_done(job))
        return came + [told_of(board, job)]

    def test_each_goes_on_by_itself(self):
        for phase in PHASES:
            board, job = job_in(phase)
            beside = board.copied()
            twin = job.copied(beside)
            ahead = told_of(board, job)
            came = self.rest_of(beside, twin)
            self.assertEqual(told_of(board, job), ahead)
            if phase != "ended":
                self.assertNotEqual(told_of(beside, twin), ahead)
            self.assertEqual(self.rest_of(board, job), came)

    def test_the_first_goes_on_by_itself(self):
        for phase in PHASES:
            board, job = job_in(phase)
            beside = board.copied()
            twin = job.copied(beside)
            ahead = told_of(beside, twin)
            self.rest_of(board, job)
            self.assertEqual(told_of(beside, twin), ahead)

    def test_a_copy_knows_where_away_leads(self):
        for call, behind in (("put_by", "by"), ("end", "ended")):
            board, job = job_in("given")
            getattr(job, call)()
            job.step()
            beside = board.copied()
            twin = job.copied(beside)
            self.assertEqual(steps_done(twin), [(device, None) for device in "vacb"])
            self.assertEqual(twin.phase(), behind)
            self.assertEqual(beside.jobs(), ["al", "jo"] if behind == "by" else ["al"])
            self.assertEqual((job.phase(), board.jobs()), ("away", ["al", "jo"]))

    def test_a_copy_of_a_copy(self):
        board, job = job_in("trial")
        beside = board.copied()
        twin = job.copied(beside)
        job.step()
        further = beside.copied()
        third = twin.copied(further)
        self.assertEqual(told_of(further, third), told_of(beside, twin))
        third.put_by()
        self.assertEqual((job.phase(), twin.phase(), third.phase()), ("trial", "trial", "away"))

    def test_a_copy_of_what_is_ended_beside_a_new_job(self):
        board, job = job_in("ended")
        Job(board, "jo", "eve", ["s"])
        beside = board.copied()
        twin = job.copied(beside)
        self.assertEqual(told_of(beside, twin), told_of(board, job))
        self.assertEqual((twin.phase(), twin.crew_now()), ("ended", []))

    def test_a_copy_refuses_alike(self):
        board, job = new_job()
        job.begin(["a"], ["u"])
        board.stick("u")
        beside = board.copied()
        twin = job.copied(beside)
        told = lambda: told_of(beside, twin)
        self.assert_refused(told, (NotNow, "jo"), twin.give)
        self.assert_refused(told, (NotNow, "jo"), twin.begin, ["x"], [])
        self.assert_refused(told, (There, "ann"), twin.hand_over, "ann", "ann")
        twin.step()
        self.assert_refused(told, (Stuck, "u"), twin.step)
        self.assert_refused(told, (There, "jo"), Job, beside, "jo", "ann", ["p"])

    def test_at_any_copy_it_takes_its_devices_as_they_stand_there(self):
        board, job = job_in("away")
        beside = board.copied()
        twin = job.copied(beside)
        job.step()
        self.assertEqual([device for device, _ in job.steps()], list("vacb"))
        self.assertEqual([device for device, _ in twin.steps()], list("uvacb"))
        self.assertEqual(Board().jobs(), [])


if __name__ == "__main__":
    unittest.main()
