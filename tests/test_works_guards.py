"""Point 37: begun jobs guard their sides, their lots and their stretches."""

import unittest

from refusing import RefusingTest
from samples import many_names
from stillmain.errors import Held, InUse, Lacks, There, TooMany
from stillmain.works import Works
from workses import all_told_of_works, done, given_works, small_works, steps_done, works_in

BEGUN = ("still", "given", "trial", "away")


class GuardingTest(RefusingTest):
    def assert_not_done(self, works, refusal, call, *handed):
        self.assert_refused(lambda: all_told_of_works(works), refusal, getattr(works, call), *handed)

    def assert_done(self, works, call, *handed):
        """The call is let by, at a copy."""
        getattr(works.copied(), call)(*handed)


class GuardsTest(GuardingTest):
    def test_in_each_phase_but_by(self):
        for phase in BEGUN:
            works = works_in(phase)
            self.assertEqual(works.lot("jo"), (["c", "d"], ["r"], ["u"]))
            for refused in (("add_line", "l", "r", "p", 1), ("add_line", "l", "q", "r", 0), ("add_source", "r"),
                            ("take_line", "c"), ("take_line", "d"), ("take_drain", "u")):
                self.assert_not_done(works, (Held, ["ann"]), *refused)
        works = works_in("by")
        for let_by in (("add_line", "l", "r", "p", 1), ("add_line", "l", "q", "r", 0), ("add_source", "r"),
                       ("take_line", "c"), ("take_line", "d"), ("take_drain", "u")):
            self.assert_done(works, *let_by)

    def test_no_longer_when_the_job_is_put_by_or_ended(self):
        for call in ("put_by", "end"):
            works = works_in("given")
            getattr(works, call)("jo")
            while steps_done(works.copied(), "jo"):
                for refused in (("add_line", "l", "r", "p", 1), ("add_source", "r"), ("take_line", "c"),
                                ("take_drain", "u")):
                    self.assert_not_done(works, (Held, ["ann"]), *refused)
                works.step("jo")
            for let_by in (("add_line", "l", "r", "p", 1), ("add_source", "r"), ("take_line", "c"),
                           ("take_line", "d"), ("take_drain", "u")):
                self.assert_done(works, *let_by)

    def test_a_line_over_the_edge_either_way_with_a_switch_or_without(self):
        works = works_in("given")
        for other in "pqst":
            for cost in (0, 1, 99):
                self.assert_not_done(works, (Held, ["ann"]), "add_line", "l", "r", other, cost)
                self.assert_not_done(works, (Held, ["ann"]), "add_line", "l", other, "r", cost)
        for one in "pqst":
            for other in "pqst":
                if one != other:
                    self.assert_done(works, "add_line", "l", one, other, 0)

    def test_over_the_edges_of_several_sides(self):
        works = given_works()
        self.assertEqual(works.lot("jo")[1], ["r"])
        self.assertEqual(works.lot("al")[1], ["s", "t"])
        for one, other, hands in (
                ("r", "t", ["ann", "dee", "eve"]), ("s", "r", ["ann", "dee", "eve"]),
                ("p", "r", ["ann", "dee"]), ("t", "p", ["eve"]), ("q", "s", ["eve"])):
            self.assert_not_done(works, (Held, hands), "add_line", "l", one, other, 7)
        self.assert_done(works, "add_line", "l", "p", "q", 7)
        self.assert_done(works, "add_line", "l", "t", "s", 0)

    def test_each_hand_once(self):
        works = given_works()
        done(works, "sign_on jo bo", "sign_on jo eve")
        self.assertEqual(works.crew_at("jo"), ["ann", "dee", "bo", "eve"])
        self.assert_not_done(works, (Held, ["ann", "bo", "dee", "eve"]), "add_line", "l", "r", "t", 1)
        done(works, "hand_over al eve zed")
        self.assert_not_done(works, (Held, ["ann", "bo", "dee", "eve", "zed"]), "add_line", "l", "r", "t", 1)

    def test_sides_within_one_another(self):
        works = small_works()
        done(works, "turn c shut", "ask jo ann r", "ask al eve q", "begin jo", "begin al")
        self.assertEqual(works.lot("jo")[1], ["r"])
        self.assertEqual(works.lot("al")[1], ["q", "r", "s", "t"])
        # Over the edge of the smaller one alone, of the larger one alone, of both, of neither.
        self.assert_not_done(works, (Held, ["ann"]), "add_line", "l", "r", "s", 1)
        self.assert_not_done(works, (Held, ["eve"]), "add_line", "l", "p", "s", 1)
        self.assert_not_done(works, (Held, ["ann", "eve"]), "add_line", "l", "p", "r", 1)
        self.assert_done(works, "add_line", "l", "q", "t", 1)
        self.assert_not_done(works, (Held, ["eve"]), "add_source", "q")
        self.assert_not_done(works, (Held, ["ann", "eve"]), "add_source", "r")

    def test_a_line_within_a_side(self):
        works = given_works()
        done(works, "add_line g s t 4", "add_line h t s 0", "take_line e", "take_line g", "take_line h")
        self.assertEqual(works.lot("al"), (["d", "f"], ["s", "t"], ["v", "w"]))
        # The side stays, though nothing joins its rooms any more.
        self.assert_not_done(works, (Held, ["eve"]), "add_line", "l", "t", "p", 1)
        self.assert_not_done(works, (Held, ["eve"]), "add_source", "s")
        self.assert_done(works, "add_line", "l", "t", "s", 1)

    def test_a_room_that_comes_later_is_in_no_side(self):
        works = works_in("given")
        done(works, "add_room z")
        self.assert_not_done(works, (Held, ["ann"]), "add_line", "l", "z", "r", 1)
        self.assert_done(works, "add_source", "z")
        self.assert_done(works, "add_line", "l", "z", "p", 0)
        self.assert_done(works, "take_room", "z")

    def test_a_source_that_is_taken_away(self):
        for phase in BEGUN:
            self.assert_done(works_in(phase), "take_source", "p")

    def test_lines_of_several_lots(self):
        works = given_works()
        self.assert_not_done(works, (Held, ["ann", "dee"]), "take_line", "c")
        self.assert_not_done(works, (Held, ["ann", "dee", "eve"]), "take_line", "d")
        self.assert_not_done(works, (Held, ["eve"]), "take_line", "f")
        for line in "abe":
            self.assert_done(works, "take_line", line)
        done(works, "sign_on jo eve")
        self.assert_not_done(works, (Held, ["ann", "dee", "eve"]), "take_line", "d")

    def test_drains_of_several_lots(self):
        works = small_works()
        done(works, "ask jo ann r", "ask al eve q", "ask bo cy r q", "begin jo", "begin al", "begin bo")
        self.assert_not_done(works, (Held, ["ann", "cy", "eve"]), "take_drain", "u")
        self.assert_not_done(works, (Held, ["cy", "eve"]), "take_drain", "v")

    def test_a_drain_in_the_side_that_is_none_of_the_jobs(self):
        works = small_works()
        done(works, "stick u", "ask jo ann r", "begin jo", "add_drain y r", "mend u")
        self.assertEqual(works.lot("jo"), (["c", "d"], ["r"], []))
        self.assert_done(works, "take_drain", "u")
        self.assert_done(works, "take_drain", "y")

    def test_a_room_of_a_stretch_in_each_phase(self):
        for phase in ("by",) + BEGUN:
            works = Works()
            done(works, "add_room p", "add_room q", "ask jo ann q p")
            if phase != "by":
                done(works, "begin jo")
            if phase in ("given", "trial"):
                done(works, "give jo")
            if phase == "trial":
                done(works, "try_out jo")
            for room in "pq":
                self.assert_not_done(works, (Held, ["ann"]), "take_room", room)
            done(works, "end jo", "take_room q")

    def test_a_room_of_the_stretch_of_a_job_that_is_away(self):
        works = small_works()
        done(works, "ask jo ann r", "begin jo", "step jo", "step jo", "step jo", "put_by jo")
        # Nothing but its lot joins the room, so it is in use till then.
        self.assert_not_done(works, (InUse, "r"), "take_room", "r")
        steps_done(works, "jo")
        done(works, "take_line c", "take_line d", "take_drain u")
        self.assert_not_done(works, (Held, ["ann"]), "take_room", "r")

    def test_a_room_of_a_side_that_is_in_no_stretch(self):
        works = small_works()
        done(works, "ask jo ann t", "begin jo", "take_line e")
        self.assertEqual(works.lot("jo")[1], ["s", "t"])
        works = Works()
        done(works, "add_room p", "add_room q", "add_line a p q 0", "ask jo ann p", "ask al bo p", "begin jo",
             "take_line a")
        self.assertEqual(works.lot("jo"), ([], ["p", "q"], []))
        self.assert_not_done(works, (Held, ["ann"]), "take_room", "q")
        self.assert_not_done(works, (Held, ["ann", "bo"]), "take_room", "p")
        done(works, "begin al")
        self.assert_not_done(works, (Held, ["ann"]), "take_room", "q")
        done(works, "put_by jo", "take_room q")
        self.assert_not_done(works, (Held, ["ann", "bo"]), "take_room", "p")

    def test_stretches_of_jobs_that_are_by(self):
        works = given_works()
        done(works, "add_room z", "ask di flo z r", "ask hal gus z", "ask kim flo t z")
        self.assert_not_done(works, (Held, ["flo", "gus"]), "take_room", "z")
        done(works, "relieve gus ann", "sign_on jo flo")
        self.assert_not_done(works, (Held, ["ann", "flo"]), "take_room", "z")
        done(works, "end di", "end hal")
        self.assert_not_done(works, (Held, ["flo"]), "take_room", "z")
        done(works, "end kim", "take_room z")


class OrderTest(GuardingTest):
    """The refusals of a layout go ahead of the guards."""

    def test_lines(self):
        works = works_in("given")
        for taken in ("a", "c", "e", "u", "x"):
            self.assert_not_done(works, (There, taken), "add_line", taken, "r", "p", 1)
        self.assert_not_done(works, (Lacks, "z"), "add_line", "l", "r", "z", 1)
        self.assert_not_done(works, (Lacks, "z"), "add_line", "l", "z", "r", 1)
        self.assert_not_done(works, (Lacks, "z"), "take_line", "z")
        self.assert_not_done(works, (Lacks, "u"), "take_line", "u")

    def test_too_many_lines(self):
        works = works_in("given")
        names = ["l" + name for name in many_names(34)]
        for name in names:
            works.add_line(name, "p", "q", 1)
        self.assertEqual(len(works.layout().lines()), 40)
        self.assert_not_done(works, (TooMany, 40), "add_line", "l", "r", "p", 1)
        works.take_line(names[0])
        self.assert_not_done(works, (Held, ["ann"]), "add_line", "l", "r", "p", 1)

    def test_sources(self):
        works = works_in("given")
        self.assert_not_done(works, (Lacks, "z"), "add_source", "z")
        self.assert_not_done(works, (There, "p"), "add_source", "p")
        self.assert_not_done(works, (Held, ["ann"]), "add_source", "r")

    def test_drains(self):
        works = works_in("given")
        self.assert_not_done(works, (Lacks, "c"), "take_drain", "c")
        self.assert_not_done(works, (Lacks, "z"), "take_drain", "z")

    def test_rooms(self):
        works = works_in("given")
        self.assert_not_done(works, (InUse, "r"), "take_room", "r")
        self.assert_not_done(works, (Lacks, "z"), "take_room", "z")
        # A source is in use, be it in a stretch or not.
        done(works, "add_room z", "add_source z", "ask al eve z")
        self.assert_not_done(works, (InUse, "z"), "take_room", "z")
        done(works, "take_source z", "add_drain y z")
        self.assert_not_done(works, (InUse, "z"), "take_room", "z")
        done(works, "take_drain y")
        self.assert_not_done(works, (Held, ["eve"]), "take_room", "z")

    def test_what_is_refused_is_not_done_by_half(self):
        works = works_in("given")
        with self.assertRaises(Held):
            works.add_line("l", "r", "p", 1)
        self.assertNotIn("l", works.layout().lines())
        self.assertNotIn("l", works.board().devices())
        works.add_line("l", "q", "p", 1)
        with self.assertRaises(Held):
            works.take_line("c")
        self.assertIn("c", works.layout().lines())
        self.assertIn("c", works.board().devices())


if __name__ == "__main__":
    unittest.main()
