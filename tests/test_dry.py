"""Point 42: what is amiss with a list of rooms as what keeps a job dry."""

import itertools
import unittest

from brute import joined_with
from refusing import RefusingTest
from samples import many_names, not_name_lists, not_names, strange_things
from stillmain import dry
from stillmain.dry import amiss
from stillmain.errors import Lacks, Wrong
from stillmain.layout import Layout
from stillmain.works import Works
from workses import all_told_of_works, done, full_works, given_works, small_works, steps_done, works_in, works_of


class AmissTest(RefusingTest):
    def assert_amiss(self, works, due, job, *rooms):
        handed = list(rooms)
        ahead = all_told_of_works(works)
        for _ in range(2):
            told = amiss(works, job, handed)
            self.assertEqual(told, due, rooms)
            self.assertIs(type(told), type(due))
        self.assertEqual(handed, list(rooms))
        self.assertEqual(all_told_of_works(works), ahead)

    def test_defined_in_its_file(self):
        self.assertEqual(amiss.__module__, "stillmain.dry")
        self.assertIs(dry.amiss, amiss)

    def test_nothing_is_amiss(self):
        works = works_in("given")
        self.assert_amiss(works, None, "jo", "r")
        self.assertIsNone(amiss(works, "jo", works.lot("jo")[1]))

    def test_lacks_the_first_in_the_order_of_the_list(self):
        works = works_in("given")
        for rooms, room in (("z", "z"), ("pqz", "z"), ("rzy", "z"), ("yz", "y"), ("cr", "c"), ("ru", "u")):
            self.assert_amiss(works, ("lacks", room), "jo", *rooms)
        self.assert_amiss(works, ("lacks", "jo"), "jo", "jo")

    def test_the_first_of_the_stretch_in_its_own_order(self):
        works = small_works()
        done(works, "ask jo ann t q r")
        for rooms, room in (("", "t"), ("p", "t"), ("q", "t"), ("rq", "t"), ("t", "q"), ("rt", "q"), ("tq", "r"),
                            ("qt", "r"), ("pqt", "r"), ("tp", "q")):
            self.assert_amiss(works, ("stretch", room), "jo", *rooms)

    def test_a_source_the_first_as_sorted(self):
        works = works_of("add_room p", "add_room q", "add_room r", "add_source r", "add_source q", "ask jo ann r")
        self.assert_amiss(works, ("source", "r"), "jo", "r", "p")
        self.assert_amiss(works, ("source", "q"), "jo", "r", "q")
        self.assert_amiss(works, ("source", "q"), "jo", "p", "q", "r")

    def test_wet_the_first_as_sorted(self):
        works = given_works()
        self.assertEqual(works.wet(), ["p", "q", "s", "t"])
        for rooms, room in (("ts", "s"), ("tqs", "q"), ("rts", "s"), ("trq", "q"), ("tr", "t")):
            self.assert_amiss(works, ("wet", room), "al", *rooms)
        self.assert_amiss(works, ("wet", "s"), "jo", "s", "r")

    def test_out_the_first_as_sorted(self):
        works = works_of("add_room p", "add_room q", "add_line z p q 1", "add_line m q p 1", "add_line b p q 0",
                         "add_line n p q 4", "ask jo ann q")
        for line in "bmnz":
            self.assert_amiss(works, ("out", line), "jo", "q")
            works.take_line(line)
        self.assert_amiss(works, None, "jo", "q")

    def test_each_way_to_be_out(self):
        # Room q lies behind a, which jo holds, and b; r is dry as well.
        rows = ("add_room p", "add_room q", "add_room r", "add_line a p q 1", "add_line b q r 1", "ask jo ann q")
        works = works_of(*rows)
        self.assert_amiss(works, ("out", "a"), "jo", "q")
        self.assert_amiss(works, ("out", "a"), "jo", "q", "r")
        self.assert_amiss(works, ("out", "b"), "jo", "q", "p")
        self.assert_amiss(works, None, "jo", "q", "p", "r")
        # Shut, but without the job's tags.
        done(works, "turn a shut", "turn b shut")
        self.assert_amiss(works, ("out", "a"), "jo", "q")
        # Of cost 0, so without a switch.
        done(works, "add_line aa q p 0")
        self.assert_amiss(works, ("out", "a"), "jo", "q")
        done(works, "take_line a")
        self.assert_amiss(works, ("out", "aa"), "jo", "q")

    def test_shut_with_the_tags_of_another_job_alone(self):
        works = works_in("given")
        done(works, "ask al eve r")
        self.assert_amiss(works, ("out", "c"), "al", "r")
        done(works, "begin al")
        self.assert_amiss(works, ("out", "c"), "al", "r")
        done(works, "step al")
        self.assert_amiss(works, ("out", "d"), "al", "r")
        done(works, "step al")
        self.assert_amiss(works, None, "al", "r")

    def test_open_with_the_jobs_tags(self):
        # In a trial the switches stand open with the job's tags; r stays dry, for there is no source.
        works = works_of("add_room p", "add_room q", "add_source q", "add_line a p q 1", "add_drain u p",
                         "ask jo ann p", "begin jo")
        steps_done(works, "jo")
        done(works, "give jo", "try_out jo", "step jo", "stick u", "take_source q", "add_drain v q",
             "ask al eve q", "begin al")
        self.assert_amiss(works, None, "jo", "p")
        steps_done(works, "al")
        self.assertEqual(works.wet(), [])
        self.assertEqual(works.step("jo"), ("a", "open"))
        self.assertEqual(works.board().held_by("jo"), ["a", "u"])
        self.assert_amiss(works, ("out", "a"), "jo", "p")
        self.assert_amiss(works, None, "jo", "q", "p")

    def test_the_answers_in_their_order(self):
        works = small_works()
        done(works, "ask jo ann r t")
        # In each list all is amiss that is told of the ones ahead of it, and one thing more.
        self.assert_amiss(works, ("wet", "r"), "jo", "t", "r")
        self.assert_amiss(works, ("source", "p"), "jo", "t", "r", "p")
        self.assert_amiss(works, ("stretch", "t"), "jo", "r", "p")
        self.assert_amiss(works, ("stretch", "r"), "jo", "p")
        self.assert_amiss(works, ("lacks", "z"), "jo", "p", "z")
        self.assert_amiss(works, ("lacks", "z"), "jo", "z", "y", "p")

    def test_lacks_goes_ahead_of_all(self):
        for works in (Works(), small_works(), works_in("given")):
            for job in ("al", "r", "c"):
                for rooms in ([], ["z"], ["r"], ["p"]):
                    self.assert_refused(lambda: all_told_of_works(works), (Lacks, job), amiss, works, job, rooms)

    def test_an_ended_job(self):
        works = works_in("given")
        done(works, "end jo")
        self.assert_amiss(works, None, "jo", "r")
        done(works, "step jo")
        self.assert_amiss(works, None, "jo", "r")
        done(works, "step jo")
        self.assert_amiss(works, ("wet", "r"), "jo", "r")
        done(works, "step jo")
        self.assert_refused(works.jobs, (Lacks, "jo"), amiss, works, "jo", ["r"])

    def test_where_nothing_is_amiss_no_way_leads_there(self):
        for works in (given_works(), works_in("given"), small_works()):
            live = joined_with(works.layout(), works.shut(), works.layout().sources())
            rooms = works.layout().rooms()
            for job in works.jobs():
                for many in range(len(rooms) + 1):
                    for some in itertools.combinations(rooms, many):
                        told = amiss(works, job, list(some))
                        if told is None:
                            self.assertFalse(set(some) & set(live))
                            self.assertFalse(set(some) & set(works.wet()))
                            self.assertLessEqual(set(works.stretch(job)), set(some))
        self.assertIsNone(amiss(works_in("given"), "jo", ["r"]))

    def test_the_order_of_the_list_is_no_matter_otherwise(self):
        works = full_works()
        job = works.jobs()[3]
        rooms = works.stretch(job) + [room for room in works.layout().rooms() if room not in works.stretch(job)]
        source, = works.layout().sources()
        self.assert_amiss(works, ("source", source), job, *rooms)
        self.assert_amiss(works, ("source", source), job, *rooms[::-1])


class DoorsTest(RefusingTest):
    def assert_wrong(self, at, works, job, rooms):
        told = (lambda: all_told_of_works(works)) if type(works) is Works else list
        self.assert_refused(told, (Wrong, at), amiss, works, job, rooms)

    def test_no_works(self):
        works = small_works()
        for thing in strange_things() + [Works, Layout(), works.layout(), works.board(), works.jobs, "works", 0]:
            self.assert_wrong(0, thing, "jo", ["r"])
            self.assert_wrong(0, thing, "JO", ["R"])
            self.assert_wrong(0, thing, thing, thing)

    def test_no_name_and_no_names(self):
        works = works_in("given")
        for thing in not_names():
            self.assert_wrong(1, works, thing, ["r"])
            self.assert_wrong(1, works, thing, thing)
        for thing in not_name_lists():
            self.assert_wrong(2, works, "jo", thing)
            self.assert_wrong(2, works, "z", thing)
        self.assert_wrong(2, works, "jo", many_names(61))
        self.assertEqual(amiss(works, "jo", many_names(60)), ("lacks", many_names(60)[0]))


if __name__ == "__main__":
    unittest.main()
