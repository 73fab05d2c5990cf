"""Points 29 to 33: a job's making, its phases, its steps and its deeds."""

import unittest

from boards import all_told_of, full_board, small_board
from jobs import PHASES, job_board, job_in, new_job, steps_done, told_of
from refusing import RefusingTest
from samples import many_names
from stillmain import job as module
from stillmain.board import Board
from stillmain.errors import Held, Lacks, NotNow, Stuck, There, TooMany
from stillmain.job import Job

METHODS = (
    "begin", "step", "give", "try_out", "go_on", "put_by", "end", "sign_on", "sign_off",
    "hand_over", "called", "phase", "stretch", "switches", "drains", "crew_now", "steps", "copied",
)


class JobTest(RefusingTest):
    def assert_not_let_by(self, board, job, refusal, call, *handed):
        self.assert_refused(lambda: told_of(board, job), refusal, getattr(job, call), *handed)

    def assert_not_now(self, board, job, call, *handed):
        self.assert_not_let_by(board, job, (NotNow, job.called()), call, *handed)


class InterfaceTest(unittest.TestCase):
    def test_the_class_defines_its_methods_itself(self):
        self.assertEqual(Job.__module__, "stillmain.job")
        self.assertIs(module.Job, Job)
        for method in METHODS:
            self.assertIn(method, vars(Job))

    def test_deeds_tell_none_but_a_step(self):
        board, job = new_job()
        self.assertIsNone(job.begin(["a"], []))
        self.assertEqual(job.step(), ("a", "shut"))
        self.assertIsNone(job.give())
        self.assertIsNone(job.sign_on("bo"))
        self.assertIsNone(job.hand_over("bo", "cy"))
        self.assertIsNone(job.sign_off("cy"))
        self.assertIsNone(job.try_out())
        self.assertIsNone(job.go_on())
        self.assertIsNone(job.put_by())
        self.assertEqual(job.step(), ("a", None))
        self.assertIsNone(job.end())
        self.assertEqual(job.phase(), "ended")

    def test_what_is_told_is_of_pythons_own_kinds(self):
        for phase in PHASES:
            board, job = job_in(phase)
            self.assertIs(type(job.called()), str)
            self.assertIs(type(job.phase()), str)
            for told in (job.stretch(), job.switches(), job.drains(), job.crew_now(), job.steps()):
                self.assertIs(type(told), list)
            for step in job.steps():
                self.assertIs(type(step), tuple)
                self.assertEqual(len(step), 2)


class MakingTest(JobTest):
    def test_a_new_job(self):
        board = job_board()
        rooms = ["r", "q"]
        job = Job(board, "jo", "ann", rooms)
        self.assertEqual(board.jobs(), ["al", "jo"])
        self.assertEqual(board.crew_of("jo"), ["ann"])
        self.assertEqual(board.held_by("jo"), [])
        self.assertEqual(told_of(board, job), {
            "board": all_told_of(board), "called": "jo", "phase": "by", "stretch": ["r", "q"],
            "switches": [], "drains": [], "crew_now": ["ann"], "steps": []})
        self.assertEqual(rooms, ["r", "q"])

    def test_names_may_be_alike(self):
        board = job_board()
        job = Job(board, "a", "a", ["a"])
        self.assertEqual((job.called(), job.crew_now(), job.stretch()), ("a", ["a"], ["a"]))
        # Rooms are asked of no board.
        self.assertEqual(Job(Board(), "jo", "jo", many_names(24)).stretch(), many_names(24))

    def test_there(self):
        board = small_board()
        for name in board.jobs():
            self.assert_refused(lambda: all_told_of(board), (There, name), Job, board, name, "ann", ["p"])

    def test_at_most_eight_jobs(self):
        board = Board()
        names = many_names(9)
        for name in names[:8]:
            Job(board, name, "ann", ["p"])
        self.assertEqual(board.jobs(), sorted(names[:8]))
        self.assert_refused(lambda: all_told_of(board), (TooMany, 8), Job, board, names[8], "ann", ["p"])

    def test_there_goes_ahead_of_too_many(self):
        board = full_board()
        self.assert_refused(
            lambda: all_told_of(board), (There, board.jobs()[3]), Job, board, board.jobs()[3], "ann", ["p"])
        self.assert_refused(lambda: all_told_of(board), (TooMany, 8), Job, board, "x", "ann", ["p"])

    def test_where_one_has_ended_a_ninth_is_let_in(self):
        board = Board()
        names = many_names(9)
        jobs = [Job(board, name, "ann", ["p"]) for name in names[:8]]
        jobs[2].end()
        Job(board, names[8], "ann", ["p"])
        self.assertEqual(board.jobs(), sorted(names[:2] + names[3:]))
        self.assert_refused(lambda: all_told_of(board), (TooMany, 8), Job, board, names[2], "ann", ["p"])


class BeginTest(JobTest):
    def test_begun(self):
        board, job = new_job()
        ahead = all_told_of(board)
        job.begin(["b", "c", "a"], ["v", "u"])
        self.assertEqual(job.phase(), "still")
        self.assertEqual(job.switches(), ["b", "c", "a"])
        self.assertEqual(job.drains(), ["v", "u"])
        # Nothing is held as long as no step is done.
        self.assertEqual(all_told_of(board), ahead)

    def test_with_nothing_at_all(self):
        board, job = new_job()
        job.begin([], [])
        self.assertEqual((job.phase(), job.switches(), job.drains(), job.steps()), ("still", [], [], []))
        self.assert_not_now(board, job, "step")
        job.give()
        self.assertEqual(job.phase(), "given")
        job.try_out()
        self.assertEqual((job.phase(), job.steps()), ("trial", []))
        job.go_on()
        job.put_by()
        self.assertEqual(job.phase(), "by")

    def test_with_switches_or_drains_alone(self):
        board, job = new_job()
        job.begin([], ["v", "a"])
        self.assertEqual(steps_done(job), [("v", "open"), ("a", "open")])
        board, job = new_job()
        job.begin(["u", "a"], [])
        self.assertEqual(steps_done(job), [("u", "shut"), ("a", "shut")])

    def test_lacks_the_first_that_the_board_has_not(self):
        board, job = new_job()
        for switches, drains, name in (
                (["x"], [], "x"), ([], ["x"], "x"), (["a", "x", "y"], ["z"], "x"),
                (["b", "a"], ["u", "zz", "y"], "zz"), (["y"], ["x"], "y"), (["al"], ["u"], "al"),
                (["a", "y"], ["x", "u"], "y"), (["jo"], [], "jo")):
            self.assert_not_let_by(board, job, (Lacks, name), "begin", switches, drains)
            self.assertEqual(job.phase(), "by")

    def test_lacks_a_device_that_was_taken_away(self):
        board, job = new_job()
        board.take("c")
        self.assert_not_let_by(board, job, (Lacks, "c"), "begin", ["b", "c", "a"], ["v", "u"])
        board.add("c", "open")
        job.begin(["b", "c", "a"], ["v", "u"])
        self.assertEqual(job.switches(), ["b", "c", "a"])

    def test_not_now_goes_ahead_of_lacks(self):
        for phase in PHASES[1:]:
            board, job = job_in(phase)
            for handed in ((["a"], ["u"]), (["x"], []), ([], ["x"]), ([], [])):
                self.assert_not_now(board, job, "begin", *handed)

    def test_lists_are_the_askers_own(self):
        board, job = new_job()
        rooms, switches, drains = ["r", "q"], ["b", "a"], ["v", "u"]
        job = Job(board, "di", "ann", rooms)
        job.begin(switches, drains)
        for handed in (rooms, switches, drains):
            handed.reverse()
            handed.append("x")
        ahead = told_of(board, job)
        self.assertEqual(job.stretch(), ["r", "q"])
        self.assertEqual((job.switches(), job.drains()), (["b", "a"], ["v", "u"]))
        for told in (job.stretch(), job.switches(), job.drains(), job.crew_now(), job.steps()):
            told.reverse()
            told.append("x")
            self.assertEqual(told_of(board, job), ahead)
        self.assertEqual(steps_done(job), [("b", "shut"), ("a", "shut"), ("v", "open"), ("u", "open")])

    def test_the_switches_that_were_handed_in_stay_when_the_job_goes_away(self):
        board, job = new_job()
        switches, drains = ["b", "a"], ["v", "u"]
        job.begin(switches, drains)
        steps_done(job)
        job.end()
        steps_done(job)
        self.assertEqual((switches, drains), (["b", "a"], ["v", "u"]))


class StepsInStillTest(JobTest):
    def test_the_told_order(self):
        board, job = new_job()
        job.begin(["b", "c", "a"], ["v", "u"])
        due = [("b", "shut"), ("c", "shut"), ("a", "shut"), ("v", "open"), ("u", "open")]
        for at, (device, position) in enumerate(due):
            self.assertEqual(job.steps(), due[at:])
            self.assertEqual(job.step(), (device, position))
            self.assertEqual(board.stands(device), position)
            self.assertEqual(board.tags(device), [("jo", "ann")])
            self.assertEqual(board.held_by("jo"), sorted(step[0] for step in due[:at + 1]))
        self.assertEqual(job.steps(), [])
        self.assert_not_now(board, job, "step")
        self.assertEqual(job.phase(), "still")
        # To hold leaves the homes.
        self.assertEqual([board.home(device) for device in "abcuv"], ["open", "open", "shut", "shut", "shut"])

    def test_a_device_that_stands_there_but_has_no_tags_of_the_job(self):
        board, job = new_job()
        board.hold("a", "shut", "al")
        board.hold("u", "open", "al")
        board.turn("b", "shut")
        job.begin(["a", "b", "c"], ["u"])
        due = [("a", "shut"), ("b", "shut"), ("c", "shut"), ("u", "open")]
        self.assertEqual(job.steps(), due)
        self.assertEqual(steps_done(job), due)
        self.assertEqual(board.jobs_on("a"), ["al", "jo"])
        self.assertEqual(board.jobs_on("u"), ["al", "jo"])

    def test_turned_in_between(self):
        board, job = new_job()
        job.begin(["a", "b"], ["u", "v"])
        board.turn("b", "shut")
        self.assertEqual(job.step(), ("a", "shut"))
        board.turn("b", "open")
        board.turn("v", "open")
        self.assertEqual(job.steps(), [("b", "shut"), ("u", "open"), ("v", "open")])
        board.turn("b", "shut")
        self.assertEqual(steps_done(job), [("b", "shut"), ("u", "open"), ("v", "open")])
        self.assertEqual((board.home("a"), board.home("b"), board.home("v")), ("open", "shut", "open"))

    def test_held_elsewhere(self):
        board, job = new_job()
        board.hold("b", "open", "al")
        board.hold("u", "shut", "al")
        job.begin(["a", "b"], ["v", "u"])
        job.step()
        self.assert_not_let_by(board, job, (Held, ["bo", "eve"]), "step")
        self.assertEqual(job.steps(), [("b", "shut"), ("v", "open"), ("u", "open")])
        board.free("b", "al")
        self.assertEqual([job.step(), job.step()], [("b", "shut"), ("v", "open")])
        self.assert_not_let_by(board, job, (Held, ["bo", "eve"]), "step")
        board.free("u", "al")
        self.assertEqual(job.step(), ("u", "open"))

    def test_stuck(self):
        board, job = new_job()
        board.stick("a")
        board.stick("c")
        board.stick("u")
        job.begin(["c", "a"], ["u"])
        # What stands there already is held, be it stuck.
        self.assertEqual(job.step(), ("c", "shut"))
        self.assert_not_let_by(board, job, (Stuck, "a"), "step")
        self.assertEqual(job.steps(), [("a", "shut"), ("u", "open")])
        board.mend("a")
        self.assertEqual(job.step(), ("a", "shut"))
        self.assert_not_let_by(board, job, (Stuck, "u"), "step")
        board.mend("u")
        self.assertEqual(job.step(), ("u", "open"))

    def test_held_goes_ahead_of_stuck(self):
        board, job = new_job()
        board.hold("a", "open", "al")
        board.stick("a")
        job.begin(["a"], [])
        self.assert_not_let_by(board, job, (Held, ["bo", "eve"]), "step")
        board.free("a", "al")
        self.assert_not_let_by(board, job, (Stuck, "a"), "step")


class StepsInTrialTest(JobTest):
    def test_last_to_first_with_homes_open_and_shut(self):
        board, job = job_in("trial")
        due = [("u", "shut"), ("v", "shut"), ("a", "open"), ("b", "open")]
        for at, (device, position) in enumerate(due):
            self.assertEqual(job.steps(), due[at:])
            self.assertEqual(job.step(), (device, position))
            self.assertEqual(board.stands(device), position)
            # The tags stay.
            self.assertEqual(board.tags(device), [("jo", "ann")])
        self.assertEqual(board.stands("c"), "shut")
        self.assertEqual(board.held_by("jo"), ["a", "b", "c", "u", "v"])
        self.assert_not_now(board, job, "step")
        self.assertEqual(job.phase(), "trial")

    def test_drains_are_shut_whatever_their_home(self):
        board, job = new_job()
        board.turn("u", "open")
        board.turn("a", "shut")
        job.begin(["b", "a", "d"], ["u", "v"])
        steps_done(job)
        job.give()
        job.try_out()
        self.assertEqual(steps_done(job), [("v", "shut"), ("u", "shut"), ("d", "open"), ("b", "open")])
        job.go_on()
        self.assertEqual(steps_done(job), [("b", "shut"), ("d", "shut"), ("u", "open"), ("v", "open")])
        job.put_by()
        self.assertEqual(steps_done(job), [(device, None) for device in "vudab"])
        self.assertEqual([board.stands(device) for device in "uvabd"],
                         ["open", "shut", "shut", "open", "open"])

    def test_held_and_stuck(self):
        board, job = job_in("trial")
        board.hold("v", "open", "al")
        board.hold("b", "shut", "al")
        board.stick("u")
        self.assert_not_let_by(board, job, (Stuck, "u"), "step")
        board.mend("u")
        self.assertEqual(job.step(), ("u", "shut"))
        self.assert_not_let_by(board, job, (Held, ["bo", "eve"]), "step")
        self.assertEqual(job.steps(), [("v", "shut"), ("a", "open"), ("b", "open")])
        board.free("v", "al")
        self.assertEqual([job.step(), job.step()], [("v", "shut"), ("a", "open")])
        self.assert_not_let_by(board, job, (Held, ["bo", "eve"]), "step")
        board.stick("b")
        self.assert_not_let_by(board, job, (Held, ["bo", "eve"]), "step")
        board.free("b", "al")
        self.assert_not_let_by(board, job, (Stuck, "b"), "step")
        board.mend("b")
        self.assertEqual(job.step(), ("b", "open"))
        self.assertEqual(job.steps(), [])


class StepsInAwayTest(JobTest):
    def test_last_to_first(self):
        board, job = job_in("away")
        due = [(device, None) for device in "uvacb"]
        for at, step in enumerate(due):
            self.assertEqual(job.phase(), "away")
            self.assertEqual(job.steps(), due[at:])
            self.assertEqual((job.switches(), job.drains()), (["b", "c", "a"], ["v", "u"]))
            self.assertEqual(job.step(), step)
            self.assertEqual(board.stands(step[0]), board.home(step[0]))
            self.assertEqual(board.tags(step[0]), [])
        self.assertEqual((job.phase(), job.steps()), ("by", []))
        self.assertEqual((job.switches(), job.drains()), ([], []))
        self.assert_not_now(board, job, "step")

    def test_just_the_devices_with_tags(self):
        board, job = new_job()
        job.begin(["b", "c", "a"], ["v", "u"])
        job.step()
        job.step()
        job.end()
        self.assertEqual(job.steps(), [("c", None), ("b", None)])

    def test_what_others_hold_stays_where_it_stands(self):
        board, job = job_in("away")
        board.hold("u", "open", "al")
        board.hold("a", "shut", "al")
        steps_done(job)
        self.assertEqual((board.stands("u"), board.stands("a")), ("open", "shut"))
        self.assertEqual((board.jobs_on("u"), board.jobs_on("a")), (["al"], ["al"]))
        self.assertEqual((board.stands("v"), board.stands("b")), ("shut", "open"))

    def test_turned_behind_its_step(self):
        board, job = job_in("away")
        self.assertEqual([job.step(), job.step(), job.step()], [("u", None), ("v", None), ("a", None)])
        board.turn("a", "shut")
        board.turn("u", "open")
        self.assertEqual(steps_done(job), [("c", None), ("b", None)])
        self.assertEqual(job.phase(), "by")

    def test_stuck_alone(self):
        board, job = job_in("away")
        for device in "vb":
            board.stick(device)
        # What needn't move is freed, be it stuck.
        board.stick("c")
        job.step()
        self.assert_not_let_by(board, job, (Stuck, "v"), "step")
        self.assertEqual((job.phase(), job.steps()[0]), ("away", ("v", None)))
        board.hold("v", "open", "al")
        self.assertEqual(job.step(), ("v", None))
        self.assertEqual([job.step(), job.step()], [("a", None), ("c", None)])
        self.assert_not_let_by(board, job, (Stuck, "b"), "step")
        board.mend("b")
        job.step()
        self.assertEqual(job.phase(), "by")


class PhasesTest(JobTest):
    LET_BY = {
        "begin": ("by",), "step": ("still", "trial", "away"), "give": (), "try_out": ("given",),
        "go_on": ("trial",), "put_by": ("still", "given", "trial"),
        "end": ("by", "still", "given", "trial"), "sign_on": ("given",),
        "sign_off": (), "hand_over": ("by", "still", "given", "trial", "away"),
    }
    HANDED = {"begin": (["a"], ["u"]), "sign_on": ("bo",), "sign_off": ("ann",), "hand_over": ("ann", "bo")}

    def test_which_deed_is_let_by_in_which_phase(self):
        for call, phases in self.LET_BY.items():
            for phase in PHASES:
                board, job = job_in(phase)
                handed = self.HANDED.get(call, ())
                self.assertEqual(job.phase(), phase)
                if phase in phases:
                    ahead = told_of(board, job)
                    getattr(job, call)(*handed)
                    self.assertNotEqual(told_of(board, job), ahead, (call, phase))
                else:
                    self.assert_not_now(board, job, call, *handed)

    def test_not_now_goes_ahead_of_all_else(self):
        for phase in PHASES:
            board, job = job_in(phase)
            if phase != "given":
                for hand in ("ann", "bo", "zed"):
                    self.assert_not_now(board, job, "sign_on", hand)
                    self.assert_not_now(board, job, "sign_off", hand)
            if phase == "ended":
                for one in ("ann", "bo"):
                    for other in ("ann", "bo"):
                        self.assert_not_now(board, job, "hand_over", one, other)

    def test_what_was_ended_refuses_all(self):
        for stop in ("by", "still", "given", "trial"):
            board, job = job_in(stop)
            job.end()
            steps_done(job)
            self.assertEqual(job.phase(), "ended")
            for call in self.LET_BY:
                self.assert_not_now(board, job, call, *self.HANDED.get(call, ()))

    def test_given_only_where_no_step_is_left(self):
        board, job = new_job()
        self.assert_not_now(board, job, "give")
        job.begin(["b", "c", "a"], ["v", "u"])
        while job.steps():
            self.assert_not_now(board, job, "give")
            job.step()
        job.give()
        self.assertEqual((job.phase(), job.steps()), ("given", []))
        self.assertEqual((job.switches(), job.drains()), (["b", "c", "a"], ["v", "u"]))
        self.assert_not_now(board, job, "give")
        self.assert_not_now(board, job, "step")

    def test_go_on_at_each_moment_of_a_trial(self):
        every = [("u", "shut"), ("v", "shut"), ("a", "open"), ("b", "open")]
        back = [("b", "shut"), ("a", "shut"), ("v", "open"), ("u", "open")]
        for many in range(5):
            board, job = job_in("trial")
            for _ in range(many):
                job.step()
            job.go_on()
            self.assertEqual(job.phase(), "still")
            undone = [device for device, _ in every[:many]]
            self.assertEqual(job.steps(), [step for step in back if step[0] in undone])
            if many:
                self.assert_not_now(board, job, "give")
            steps_done(job)
            job.give()
            self.assertEqual(job.phase(), "given")

    def test_a_trial_goes_on_and_not_straight_to_the_permit(self):
        board, job = job_in("trial")
        self.assert_not_now(board, job, "give")
        self.assert_not_now(board, job, "try_out")
        steps_done(job)
        self.assert_not_now(board, job, "give")


class GoingAwayTest(JobTest):
    def stops(self):
        """The job at every moment of still, given and trial, with what it is about to do."""
        for many in range(6):
            board, job = job_in("still")
            for _ in range(many):
                job.step()
            yield board, job
        yield job_in("given")
        for many in range(5):
            board, job = job_in("trial")
            for _ in range(many):
                job.step()
            yield board, job

    def test_put_by_and_end_at_every_moment(self):
        for call, behind in (("put_by", "by"), ("end", "ended")):
            for board, job in self.stops():
                held = board.held_by("jo")
                getattr(job, call)()
                left = [(device, None) for device in "uvacb" if device in held]
                self.assertEqual(job.phase(), "away" if held else behind)
                self.assertEqual(job.steps(), left)
                if held:
                    for other in ("put_by", "end", "try_out", "go_on", "give"):
                        self.assert_not_now(board, job, other)
                self.assertEqual(steps_done(job), left)
                self.assertEqual(job.phase(), behind)
                self.assertEqual(board.jobs(), ["al", "jo"] if behind == "by" else ["al"])
                self.assertEqual([board.stands(device) for device in "abcduv"],
                                 ["open", "open", "shut", "open", "shut", "shut"])
                self.assertEqual((job.switches(), job.drains(), job.steps()), ([], [], []))

    def test_at_once_where_no_device_is_held(self):
        for call, behind in (("put_by", "by"), ("end", "ended")):
            board, job = job_in("still")
            getattr(job, call)()
            self.assertEqual((job.phase(), job.switches(), job.drains()), (behind, [], []))
            self.assertEqual("jo" in board.jobs(), behind == "by")
        board, job = new_job()
        job.end()
        self.assertEqual((job.phase(), board.jobs()), ("ended", ["al"]))

    def test_begun_again_with_other_devices(self):
        board, job = job_in("away")
        steps_done(job)
        job.begin(["d"], ["u"])
        self.assertEqual((job.switches(), job.drains()), (["d"], ["u"]))
        self.assertEqual(steps_done(job), [("d", "shut"), ("u", "open")])
        job.give()
        job.end()
        self.assertEqual(steps_done(job), [("u", None), ("d", None)])
        self.assertEqual(job.phase(), "ended")

    def test_put_by_and_then_ended(self):
        board, job = job_in("away")
        steps_done(job)
        self.assertEqual((job.phase(), board.jobs()), ("by", ["al", "jo"]))
        job.end()
        self.assertEqual((job.phase(), board.jobs()), ("ended", ["al"]))

    def test_held_by_the_others_of_the_crew(self):
        board, job = job_in("given")
        for hand, hands in (("zed", ["zed"]), ("bo", ["bo", "zed"]), ("cy", ["bo", "cy", "zed"]),
                            ("al", ["al", "bo", "cy", "zed"])):
            job.sign_on(hand)
            for call in ("try_out", "put_by", "end"):
                self.assert_not_let_by(board, job, (Held, hands), call)
        # The holder is the first, whoever that is.
        job.hand_over("ann", "dee")
        self.assert_not_let_by(board, job, (Held, ["al", "bo", "cy", "zed"]), "end")
        job.sign_off("dee")
        self.assertEqual(job.crew_now(), ["zed", "bo", "cy", "al"])
        for call in ("try_out", "put_by", "end"):
            self.assert_not_let_by(board, job, (Held, ["al", "bo", "cy"]), call)
        for call in ("give", "go_on", "step"):
            self.assert_not_now(board, job, call)
        for hand in ("bo", "cy", "al"):
            job.sign_off(hand)
        job.try_out()
        self.assertEqual(job.phase(), "trial")

    def test_the_name_may_be_used_again(self):
        board, job = job_in("given")
        job.end()
        steps_done(job)
        new = Job(board, "jo", "eve", ["s"])
        new.begin(["a"], ["u"])
        new.step()
        self.assertEqual(told_of(board, job), {
            "board": all_told_of(board), "called": "jo", "phase": "ended", "stretch": ["r", "q"],
            "switches": [], "drains": [], "crew_now": [], "steps": []})
        self.assertEqual((new.phase(), new.crew_now(), new.steps()), ("still", ["eve"], [("u", "open")]))
        for call in PhasesTest.LET_BY:
            self.assert_not_now(board, job, call, *PhasesTest.HANDED.get(call, ()))
        self.assertEqual(board.crew_of("jo"), ["eve"])
        self.assertEqual(board.held_by("jo"), ["a"])


if __name__ == "__main__":
    unittest.main()
