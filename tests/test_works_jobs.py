"""Points 39 to 41: jobs at a works, and all that it tells of them."""

import unittest

from boards import all_told_of
from layouts import all_told
from refusing import RefusingTest
from samples import many_names
from stillmain.errors import Held, Lacks, NoPart, NotDry, NotNow, Stuck, There, TooMany
from stillmain.works import Works
from workses import (
    SMALL, all_told_of_works, called, done, full_works, given_works, small_works, steps_done, works_in,
    works_of)

PHASES = ("by", "still", "given", "trial", "away")
OF_A_JOB = ("begin", "step", "give", "end", "put_by", "try_out", "go_on")


class JobsTest(RefusingTest):
    def assert_not_done(self, works, refusal, call, *handed):
        self.assert_refused(lambda: all_told_of_works(works), refusal, getattr(works, call), *handed)


class AskTest(JobsTest):
    def test_asked(self):
        works = small_works()
        rooms = ["t", "r"]
        works.ask("jo", "ann", rooms)
        rooms.append("p")
        self.assertEqual(works.jobs(), ["jo"])
        self.assertEqual((works.phase("jo"), works.stretch("jo"), works.crew_at("jo")), ("by", ["t", "r"], ["ann"]))
        self.assertEqual((works.steps_left("jo"), works.lot("jo")), ([], ([], [], [])))
        self.assertEqual((works.board().jobs(), works.board().crew_of("jo")), (["jo"], ["ann"]))

    def test_refusals_in_order(self):
        works = full_works()
        room, jobs = works.layout().rooms()[0], works.jobs()
        self.assert_not_done(works, (There, jobs[2]), "ask", jobs[2], "ann", ["z", room])
        self.assert_not_done(works, (Lacks, "z"), "ask", "jo", "ann", [room, "z", "y"])
        self.assert_not_done(works, (Lacks, "y"), "ask", "jo", "ann", ["y", room, "z"])
        self.assert_not_done(works, (TooMany, 8), "ask", "jo", "ann", [room])
        works.end(jobs[2])
        works.ask("jo", "ann", [room])
        self.assert_not_done(works, (TooMany, 8), "ask", jobs[2], "ann", [room])

    def test_eight_jobs(self):
        works = works_of("add_room p")
        for at, job in enumerate(many_names(8)):
            self.assertEqual(len(works.jobs()), at)
            works.ask(job, "ann", ["p"])
        self.assert_not_done(works, (TooMany, 8), "ask", "jo", "ann", ["p"])

    def test_rooms_are_no_lines_and_no_drains(self):
        works = small_works()
        for name in ("a", "u", "jo"):
            self.assert_not_done(works, (Lacks, name), "ask", "jo", "ann", ["p", name])
        works.ask("a", "p", ["p"])
        self.assertEqual(works.jobs(), ["a"])


class BeginTest(JobsTest):
    def test_with_the_least_lot(self):
        works = small_works()
        for job, rooms, lot in (
                ("jo", "r", (["c", "d"], ["r"], ["u"])), ("al", "t", (["d", "f"], ["s", "t"], ["v", "w"])),
                ("bo", "r t", (["c", "f"], ["r", "s", "t"], ["u", "v", "w"])),
                ("di", "q", (["a", "b"], ["q", "r", "s", "t"], ["u", "v", "w", "x"]))):
            done(works, f"ask {job} ann {rooms}", "begin " + job)
            self.assertEqual((works.phase(job), works.lot(job)), ("still", lot))
        self.assertEqual((works.shut(), works.opened(), works.board().held_by("jo")), ([], [], []))

    def test_switches_are_sorted_and_drains_too(self):
        works = works_of("add_room p", "add_room q", "add_source p", "add_line c p q 1", "add_line a q p 1",
                         "add_line b p q 1", "add_drain z q", "add_drain x q", "add_drain y q", "add_drain w p",
                         "ask jo ann q", "begin jo")
        self.assertEqual(works.lot("jo"), (["a", "b", "c"], ["q"], ["x", "y", "z"]))
        self.assertEqual(steps_done(works, "jo"), [(one, "shut") for one in "abc"] + [(one, "open") for one in "xyz"])

    def test_where_nothing_has_to_be_shut(self):
        works = works_of("add_room p", "add_room q", "add_line a p q 0", "add_drain u q", "ask jo ann p",
                         "begin jo")
        self.assertEqual(works.lot("jo"), ([], ["p", "q"], ["u"]))
        self.assertEqual(steps_done(works, "jo"), [("u", "open")])
        works = works_of("add_room p", "ask jo ann p", "begin jo", "give jo")
        self.assertEqual((works.phase("jo"), works.lot("jo")), ("given", ([], ["p"], [])))

    def test_what_stands_shut_already_counts_like_what_does_not(self):
        works = small_works()
        # The lot is the least of all, whatever stands shut.
        done(works, "turn c shut", "turn f shut", "ask jo ann r", "begin jo")
        self.assertEqual(works.lot("jo")[0], ["c", "d"])

    def test_barred_are_the_switches_that_stand_open_and_are_stuck(self):
        works = small_works()
        done(works, "stick d", "ask jo ann r", "begin jo")
        self.assertEqual(works.lot("jo"), (["c", "f"], ["r", "s", "t"], ["u", "v", "w"]))
        # One that stands shut and is stuck is none of them.
        works = small_works()
        done(works, "turn d shut", "stick d", "ask jo ann r", "begin jo")
        self.assertEqual(works.lot("jo"), (["c", "d"], ["r"], ["u"]))
        self.assertEqual(steps_done(works, "jo"), [("c", "shut"), ("d", "shut"), ("u", "open")])
        works = small_works()
        done(works, "stick d", "mend d", "ask jo ann r", "begin jo")
        self.assertEqual(works.lot("jo")[0], ["c", "d"])

    def test_some_barred_and_the_last_one_too(self):
        works = small_works()
        done(works, "stick c", "stick d", "ask jo ann r", "begin jo")
        self.assertEqual(works.lot("jo")[0], ["a", "b"])
        done(works, "put_by jo", "stick a")
        # Along what can't be shut alone; the other lines are taken as shut.
        self.assert_not_done(works, (NoPart, ["p", "a", "q", "c", "r"]), "begin", "jo")
        done(works, "mend c")
        self.assertEqual(called(works.copied(), "begin jo"), None)
        done(works, "add_line z p r 0")
        self.assert_not_done(works, (NoPart, ["p", "z", "r"]), "begin", "jo")

    def test_drains_that_stand_shut_and_are_stuck_are_left_out(self):
        works = small_works()
        done(works, "stick v", "ask jo ann t", "begin jo")
        self.assertEqual(works.lot("jo"), (["d", "f"], ["s", "t"], ["w"]))
        # One that another job holds open and that is stuck there is none of them.
        works = small_works()
        done(works, "ask jo ann t", "begin jo")
        steps_done(works, "jo")
        done(works, "stick v", "stick w", "ask al eve t", "begin al")
        self.assertEqual(works.lot("al"), (["d", "f"], ["s", "t"], ["v", "w"]))
        self.assertEqual(steps_done(works, "al"), [("d", "shut"), ("f", "shut"), ("v", "open"), ("w", "open")])

    def test_a_source_in_the_stretch(self):
        works = small_works()
        done(works, "ask jo ann r p")
        self.assert_not_done(works, (NoPart, ["p"]), "begin", "jo")

    def test_while_others_stand_begun(self):
        works = given_works()
        done(works, "ask di flo r", "begin di")
        self.assertEqual(works.lot("di"), works.lot("jo"))
        self.assertEqual(works.steps_left("di"), [("c", "shut"), ("d", "shut"), ("u", "open")])
        steps_done(works, "di")
        self.assertEqual(works.board().jobs_on("d"), ["di", "jo"])
        self.assertEqual(works.board().tags("d"), [("di", "flo"), ("jo", "ann"), ("jo", "dee")])

    def test_others_in_trial_hold_a_switch_open(self):
        works = works_in("trial")
        steps_done(works, "jo")
        done(works, "ask al eve r", "begin al")
        self.assert_not_done(works, (Held, ["ann"]), "step", "al")
        done(works, "put_by jo")
        steps_done(works, "jo")
        self.assertEqual(steps_done(works, "al"), [("c", "shut"), ("d", "shut"), ("u", "open")])

    def test_refusals_in_order(self):
        for phase in PHASES[1:]:
            works = works_in(phase)
            if phase == "trial":
                steps_done(works, "jo")
            self.assert_not_done(works, (NotNow, "jo"), "begin", "jo")
            self.assert_not_done(works, (Lacks, "al"), "begin", "al")
            # Where its switches stand open it couldn't be parted now, but that comes behind.
            done(works, "stick a", "stick c", "ask al eve r")
            self.assert_not_done(works, (NotNow, "jo"), "begin", "jo")
            if phase in ("still", "trial"):
                self.assert_not_done(works, (NoPart, ["p", "a", "q", "c", "r"]), "begin", "al")

    def test_a_line_that_came_in_between(self):
        works = small_works()
        done(works, "ask jo ann r", "add_line z p r 9", "begin jo")
        self.assertEqual(works.lot("jo")[0], ["c", "d", "z"])
        done(works, "put_by jo", "take_line z", "take_line c", "begin jo")
        self.assertEqual(works.lot("jo"), (["d"], ["r"], ["u"]))


class DeedsOfAJobTest(JobsTest):
    def test_lacks(self):
        works = small_works()
        done(works, "ask jo ann r")
        for name in ("al", "r", "c", "ann"):
            for call in OF_A_JOB:
                self.assert_not_done(works, (Lacks, name), call, name)
            self.assert_not_done(works, (Lacks, name), "sign_on", name, "ann")
            self.assert_not_done(works, (Lacks, name), "sign_off", name, "ann")
            self.assert_not_done(works, (Lacks, name), "hand_over", name, "ann", "ann")

    def test_not_now(self):
        let_by = {"begin": ("by",), "step": ("still", "trial", "away"), "give": (), "go_on": ("trial",),
                  "try_out": ("given",), "put_by": ("still", "given", "trial"),
                  "end": ("by", "still", "given", "trial")}
        for call, phases in let_by.items():
            for phase in PHASES:
                works = works_in(phase)
                if phase in phases:
                    getattr(works, call)("jo")
                else:
                    self.assert_not_done(works, (NotNow, "jo"), call, "jo")

    def test_steps(self):
        works = small_works()
        done(works, "ask jo ann r", "begin jo")
        due = [("c", "shut"), ("d", "shut"), ("u", "open")]
        for at, step in enumerate(due):
            self.assertEqual(works.steps_left("jo"), due[at:])
            self.assertEqual(works.step("jo"), step)
            self.assertEqual(works.board().tags(step[0]), [("jo", "ann")])
        self.assert_not_done(works, (NotNow, "jo"), "step", "jo")

    def test_a_step_that_is_refused_is_left(self):
        works = small_works()
        done(works, "ask jo ann r", "begin jo", "stick d", "step jo")
        self.assert_not_done(works, (Stuck, "d"), "step", "jo")
        self.assertEqual(works.steps_left("jo"), [("d", "shut"), ("u", "open")])
        done(works, "mend d")
        self.assertEqual(works.step("jo"), ("d", "shut"))

    def test_held_in_a_trial_by_another_job(self):
        works = works_in("given")
        done(works, "ask al eve r", "begin al")
        steps_done(works, "al")
        done(works, "try_out jo")
        self.assert_not_done(works, (Held, ["eve"]), "step", "jo")
        done(works, "give al", "sign_on al bo")
        self.assert_not_done(works, (Held, ["bo", "eve"]), "step", "jo")
        done(works, "sign_off al eve", "end al")
        self.assertEqual(steps_done(works, "al"), [("u", None), ("d", None), ("c", None)])
        self.assertEqual((works.shut(), works.opened()), (["c", "d"], ["u"]))
        self.assertEqual(steps_done(works, "jo"), [("u", "shut"), ("d", "open"), ("c", "open")])

    def test_to_go_away_is_refused_with_stuck_alone(self):
        works = works_in("given")
        done(works, "ask al eve r", "begin al")
        steps_done(works, "al")
        done(works, "stick u", "stick d", "put_by jo")
        self.assertEqual(steps_done(works, "jo"), [("u", None), ("d", None), ("c", None)])
        done(works, "end al")
        self.assert_not_done(works, (Stuck, "u"), "step", "al")
        done(works, "mend u", "step al")
        self.assert_not_done(works, (Stuck, "d"), "step", "al")
        done(works, "mend d", "step al", "step al")
        self.assertEqual(works.jobs(), ["jo"])

    def test_give_not_now_goes_ahead_of_not_dry(self):
        works = small_works()
        done(works, "ask jo ann r")
        self.assert_not_done(works, (NotNow, "jo"), "give", "jo")
        done(works, "begin jo")
        for _ in range(3):
            self.assert_not_done(works, (NotNow, "jo"), "give", "jo")
            works.step("jo")
        done(works, "give jo")
        self.assertEqual(works.phase("jo"), "given")

    def test_give_not_dry(self):
        works = small_works()
        done(works, "stick v", "stick w", "ask jo ann t", "begin jo")
        self.assertEqual(steps_done(works, "jo"), [("d", "shut"), ("f", "shut")])
        self.assert_not_done(works, (NotDry, ["s", "t"]), "give", "jo")

    def test_give_not_dry_in_one_part_of_the_side(self):
        works = small_works()
        done(works, "add_room z", "add_line y t z 1", "stick w", "ask jo ann z t s", "begin jo", "take_line e")
        self.assertEqual(works.lot("jo"), (["d", "f"], ["s", "t", "z"], ["v"]))
        self.assertEqual(steps_done(works, "jo"), [("d", "shut"), ("f", "shut"), ("v", "open")])
        self.assertEqual(works.wet(), ["p", "q", "r", "t", "z"])
        self.assert_not_done(works, (NotDry, ["t", "z"]), "give", "jo")
        done(works, "take_line y")
        self.assert_not_done(works, (NotDry, ["t", "z"]), "give", "jo")
        done(works, "add_line y s t 0")
        self.assert_not_done(works, (NotDry, ["z"]), "give", "jo")
        done(works, "add_line e z t 0", "give jo")
        self.assertEqual(works.wet(), ["p", "q", "r"])

    def test_ended_it_is_there_no_longer(self):
        for phase in PHASES[:-1]:
            works = works_in(phase)
            done(works, "end jo")
            if works.jobs():
                self.assertEqual(works.phase("jo"), "away")
                steps_done(works, "jo")
            self.assertEqual((works.jobs(), works.board().jobs()), ([], []))
            for call in OF_A_JOB + ("phase", "stretch", "crew_at", "steps_left", "lot"):
                self.assert_not_done(works, (Lacks, "jo"), call, "jo")
            done(works, "ask jo eve t")
            self.assertEqual((works.phase("jo"), works.stretch("jo"), works.crew_at("jo")), ("by", ["t"], ["eve"]))
            self.assertEqual(works.lot("jo"), ([], [], []))

    def test_put_by_it_may_be_begun_again(self):
        works = works_in("given")
        done(works, "put_by jo")
        self.assertEqual(works.lot("jo"), (["c", "d"], ["r"], ["u"]))
        self.assertEqual(steps_done(works, "jo"), [("u", None), ("d", None), ("c", None)])
        self.assertEqual((works.phase("jo"), works.lot("jo")), ("by", ([], [], [])))
        done(works, "stick c", "begin jo")
        self.assertEqual(works.lot("jo"), (["a", "b"], ["q", "r", "s", "t"], ["u", "v", "w", "x"]))

    def test_tried_out_and_given_again(self):
        works = works_in("trial")
        done(works, "step jo", "go_on jo")
        self.assertEqual(works.steps_left("jo"), [("u", "open")])
        self.assert_not_done(works, (NotNow, "jo"), "give", "jo")
        done(works, "step jo", "give jo")
        self.assertEqual(works.phase("jo"), "given")

    def test_company(self):
        works = works_in("given")
        done(works, "sign_on jo zed", "sign_on jo bo")
        for call in ("end", "put_by", "try_out"):
            self.assert_not_done(works, (Held, ["bo", "zed"]), call, "jo")
        self.assertEqual(works.phase("jo"), "given")


class CrewsTest(JobsTest):
    def test_on_and_off_and_over(self):
        works = works_in("given")
        for hand in ("bo", "cy", "dee", "eve", "flo"):
            done(works, "sign_on jo " + hand)
        self.assertEqual(works.crew_at("jo"), ["ann", "bo", "cy", "dee", "eve", "flo"])
        self.assert_not_done(works, (There, "cy"), "sign_on", "jo", "cy")
        self.assert_not_done(works, (TooMany, 6), "sign_on", "jo", "gus")
        done(works, "hand_over jo cy gus", "sign_off jo ann")
        self.assertEqual(works.crew_at("jo"), ["bo", "gus", "dee", "eve", "flo"])
        self.assertEqual(works.board().tags("u"), [("jo", hand) for hand in ("bo", "dee", "eve", "flo", "gus")])
        self.assert_not_done(works, (Lacks, "ann"), "sign_off", "jo", "ann")
        self.assert_not_done(works, (Lacks, "ann"), "hand_over", "jo", "ann", "bo")
        self.assert_not_done(works, (There, "bo"), "hand_over", "jo", "bo", "bo")
        for hand in ("bo", "gus", "dee", "eve"):
            done(works, "sign_off jo " + hand)
        self.assert_not_done(works, (NotNow, "jo"), "sign_off", "jo", "flo")

    def test_not_now(self):
        for phase in PHASES:
            works = works_in(phase)
            if phase != "given":
                for hand in ("ann", "bo"):
                    self.assert_not_done(works, (NotNow, "jo"), "sign_on", "jo", hand)
                    self.assert_not_done(works, (NotNow, "jo"), "sign_off", "jo", hand)
            done(works, "hand_over jo ann bo")
            self.assertEqual(works.crew_at("jo"), ["bo"])

    def test_relieve_in_several_crews(self):
        works = given_works()
        done(works, "sign_on jo eve", "ask di dee t")
        self.assertEqual([works.crew_at(job) for job in ("al", "bo", "di", "jo")],
                         [["eve"], ["cy"], ["dee"], ["ann", "dee", "eve"]])
        done(works, "relieve dee zed")
        self.assertEqual([works.crew_at(job) for job in ("al", "bo", "di", "jo")],
                         [["eve"], ["cy"], ["zed"], ["ann", "zed", "eve"]])
        self.assertEqual(works.board().tags("u"), [("jo", "ann"), ("jo", "eve"), ("jo", "zed")])
        done(works, "relieve eve cy")
        self.assertEqual([works.crew_at(job) for job in ("al", "bo", "di", "jo")],
                         [["cy"], ["cy"], ["zed"], ["ann", "zed", "cy"]])
        # Where the other one is in a crew in which the first isn't, it is let by.
        done(works, "relieve ann bo", "relieve bo ann")
        self.assertEqual(works.crew_at("jo"), ["ann", "zed", "cy"])

    def test_relieve_in_each_phase(self):
        for phase in PHASES:
            works = works_in(phase)
            ahead = all_told_of_works(works)
            done(works, "relieve ann bo")
            self.assertEqual((works.crew_at("jo"), works.phase("jo")), (["bo"], phase))
            done(works, "relieve bo ann")
            self.assertEqual(all_told_of_works(works), ahead)

    def test_relieve_is_refused_and_nothing_is_done(self):
        works = given_works()
        done(works, "sign_on jo eve", "sign_on jo cy")
        for name in ("x", "jo", "al", "flo"):
            for other in ("ann", "zed", name):
                self.assert_not_done(works, (Lacks, name), "relieve", name, other)
        # al's job comes ahead of jo's, in which alone the other one is.
        self.assert_not_done(works, (There, "ann"), "relieve", "eve", "ann")
        self.assert_not_done(works, (There, "dee"), "relieve", "cy", "dee")
        for hand in ("ann", "cy", "eve"):
            self.assert_not_done(works, (There, hand), "relieve", hand, hand)

    def test_relieve_is_refused_by_one_crew_of_several(self):
        for rooms in ("rt", "tr"):
            works = small_works()
            for job, room in zip(("jo", "al"), rooms):
                done(works, f"ask {job} ann {room}", "begin " + job)
                steps_done(works, job)
                done(works, "give " + job)
            done(works, "sign_on jo bo", "sign_on al cy")
            for other in ("bo", "cy"):
                self.assert_not_done(works, (There, other), "relieve", "ann", other)
            done(works, "relieve ann dee")
            self.assertEqual((works.crew_at("jo"), works.crew_at("al")), (["dee", "bo"], ["dee", "cy"]))

    def test_relieve_lacks_who_was_on_an_ended_job_alone(self):
        works = given_works()
        done(works, "end bo")
        self.assert_not_done(works, (Lacks, "cy"), "relieve", "cy", "gus")
        self.assert_not_done(works, (Lacks, "cy"), "relieve", "cy", "cy")


class ToldTest(JobsTest):
    def test_each_question_lacks(self):
        for works in (Works(), given_works()):
            for call in ("phase", "stretch", "crew_at", "steps_left", "lot"):
                for name in ("x", "r", "c", "ann"):
                    self.assert_not_done(works, (Lacks, name), call, name)

    def test_each_question(self):
        works = given_works()
        self.assertEqual(works.jobs(), ["al", "bo", "jo"])
        self.assertEqual([works.phase(job) for job in works.jobs()], ["still", "by", "given"])
        self.assertEqual([works.stretch(job) for job in works.jobs()], [["t"], ["q", "p"], ["r"]])
        self.assertEqual([works.crew_at(job) for job in works.jobs()], [["eve"], ["cy"], ["ann", "dee"]])
        self.assertEqual(works.steps_left("al"), [("d", "shut"), ("f", "shut"), ("v", "open"), ("w", "open")])
        self.assertEqual((works.steps_left("bo"), works.steps_left("jo")), ([], []))
        self.assertEqual(works.lot("al"), (["d", "f"], ["s", "t"], ["v", "w"]))
        self.assertEqual(works.lot("bo"), ([], [], []))
        self.assertEqual(works.lot("jo"), (["c", "d"], ["r"], ["u"]))
        self.assertEqual((works.shut(), works.opened(), works.wet()), (["c", "d"], ["u"], ["p", "q", "s", "t"]))

    def test_what_is_told_is_the_askers_own(self):
        works = given_works()
        ahead = all_told_of_works(works)
        asked = [works.shut, works.opened, works.wet, works.jobs]
        for job in works.jobs():
            for call in ("stretch", "crew_at", "steps_left"):
                asked.append(lambda call=call, job=job: getattr(works, call)(job))
            asked += [lambda at=at, job=job: works.lot(job)[at] for at in range(3)]
        for told in asked:
            for spoil in (list.clear, lambda one: one.append("z"), list.reverse):
                spoil(told())
                self.assertEqual(all_told_of_works(works), ahead)

    def test_layout_and_board_are_copies(self):
        works = given_works()
        ahead = all_told_of_works(works)
        layout, board = works.layout(), works.board()
        layout.take_line("c")
        layout.add_source("r")
        board.free("u", "jo")
        board.turn("a", "shut")
        board.stick("b")
        board.crew("al", ["zed"])
        self.assertEqual(all_told_of_works(works), ahead)
        self.assertEqual(all_told(works.layout()), ahead["layout"])
        done(works, "add_room z", "stick a")
        self.assertNotIn("z", layout.rooms())
        self.assertIs(board.is_stuck("a"), False)
        self.assertEqual(all_told_of(works.board())["jobs"], ["al", "bo", "jo"])

    def test_asking_changes_nothing(self):
        for works in (small_works(), given_works(), full_works()):
            self.assertEqual(all_told_of_works(works), all_told_of_works(works))

    def test_the_stretch_that_was_handed_in_is_the_askers_own(self):
        works = works_of(*SMALL)
        rooms = ["r", "q"]
        works.ask("jo", "ann", rooms)
        rooms.clear()
        self.assertEqual(works.stretch("jo"), ["r", "q"])
        works.begin("jo")
        self.assertEqual(rooms, [])
        self.assertEqual(works.lot("jo")[1], ["q", "r", "s", "t"])


if __name__ == "__main__":
    unittest.main()
