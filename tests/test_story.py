"""Point 1: a works from its first room to its last job, as the document tells of the whole."""

import unittest

from refusing import RefusingTest
from stillmain.day import walk_day
from stillmain.deeds import read_deed
from stillmain.desk import Desk
from stillmain.dry import amiss
from stillmain.errors import Held, NotDry, Stuck
from stillmain.least import cost_of, ways_to
from stillmain.permit import holds_still, permit_of, permits_of
from workses import SMALL, all_told_of_works, done, steps_done, works_of


class StoryTest(RefusingTest):
    def assert_refused_at(self, works, refusal, call, *handed):
        self.assert_refused(lambda: all_told_of_works(works), refusal, getattr(works, call), *handed)

    def test_switches_one_by_one_then_drains_then_the_permit(self):
        works = works_of(*SMALL, "ask jo ann t", "begin jo")
        switches, side, drains = works.lot("jo")
        ways = ways_to(works.layout(), [], ["t"])
        self.assertEqual(sum(amount for amount, _ in ways), cost_of(works.layout(), switches))
        steps = [(one, "shut") for one in switches] + [(one, "open") for one in drains]
        for at, (device, position) in enumerate(steps):
            self.assertEqual(works.step("jo"), (device, position))
            self.assertEqual(works.board().tags(device), [("jo", "ann")])
            # No drain is opened but behind all of the switches.
            self.assertEqual(works.opened(), drains[:max(0, at + 1 - len(switches))])
        self.assertFalse(set(side) & set(works.wet()))
        done(works, "give jo")
        self.assertEqual(str(permit_of(works, "jo")), "jo : ann : s t : d f : v w")
        self.assertIsNone(amiss(works, "jo", side))

    def test_the_side_stays_dry_whatever_others_do(self):
        works = works_of(*SMALL, "ask jo ann t", "begin jo")
        steps_done(works, "jo")
        done(works, "give jo", "ask al eve r t", "begin al")
        # The side of al's job is r, s and t, so it has the edge of jo's within it but at f.
        for hands, call, *handed in (
                (["ann"], "turn", "d", "open"), (["ann", "eve"], "add_line", "z", "p", "t", 0),
                (["ann", "eve"], "add_source", "s"), (["ann", "eve"], "take_line", "f"),
                (["ann", "eve"], "take_drain", "v"), (["ann"], "add_line", "z", "s", "r", 9)):
            self.assert_refused_at(works, (Held, hands), call, *handed)
            self.assertIsNone(amiss(works, "jo", ["s", "t"]))
        done(works, "add_room z", "add_line z p z 0", "add_source z", "turn a shut", "take_line e", "stick d")
        steps_done(works, "al")
        self.assertIsNone(amiss(works, "jo", ["s", "t"]))

    def test_jobs_share_switches_and_drains(self):
        works = works_of(*SMALL, "ask jo ann t", "ask al eve t", "begin jo", "begin al")
        steps_done(works, "jo")
        steps_done(works, "al")
        done(works, "give jo", "give al")
        self.assertEqual(works.board().tags("v"), [("al", "eve"), ("jo", "ann")])
        permit = permit_of(works, "al")
        done(works, "end jo")
        steps_done(works, "jo")
        # What one lets go the other one still holds.
        self.assertEqual((works.shut(), works.opened(), works.jobs()), (["d", "f"], ["v", "w"], ["al"]))
        self.assertIs(holds_still(works, permit), True)
        self.assertIsNone(amiss(works, "al", ["s", "t"]))
        done(works, "end al")
        steps_done(works, "al")
        self.assertEqual(all_told_of_works(works), all_told_of_works(works_of(*SMALL)))

    def test_tried_out_handed_over_put_by_and_begun_again(self):
        works = works_of(*SMALL, "ask jo ann t", "begin jo")
        steps_done(works, "jo")
        done(works, "give jo", "sign_on jo bo")
        self.assert_refused_at(works, (Held, ["bo"]), "try_out", "jo")
        done(works, "hand_over jo ann cy", "sign_off jo cy", "try_out jo")
        self.assertEqual((permits_of(works), works.crew_at("jo")), ([], ["bo"]))
        steps_done(works, "jo")
        self.assertEqual(works.wet(), ["p", "q", "r", "s", "t"])
        done(works, "go_on jo")
        steps_done(works, "jo")
        done(works, "give jo", "put_by jo")
        steps_done(works, "jo")
        done(works, "begin jo")
        steps_done(works, "jo")
        done(works, "give jo")
        self.assertEqual([str(permit) for permit in permits_of(works, "bo")], ["jo : bo : s t : d f : v w"])

    def test_a_switch_that_fails_to_move_and_a_drain_too(self):
        works = works_of(*SMALL, "ask jo ann t", "begin jo", "step jo", "stick f")
        self.assert_refused_at(works, (Stuck, "f"), "step", "jo")
        done(works, "put_by jo", "step jo", "begin jo")
        # Begun again, it has a lot without what can't be moved.
        self.assertEqual(works.lot("jo"), (["a", "b"], ["q", "r", "s", "t"], ["u", "v", "w", "x"]))
        done(works, "put_by jo", "mend f", "stick v", "stick w", "begin jo")
        steps_done(works, "jo")
        self.assert_refused_at(works, (NotDry, ["s", "t"]), "give", "jo")

    def test_a_day_ahead_and_papers_that_come_late(self):
        desk = Desk()
        rows = ("ask jo ann t", "begin jo", "step jo", "step jo", "step jo", "step jo", "give jo")
        for at, row in enumerate(SMALL + rows):
            desk.say(f"paper {10 * at} {at} {row}")
        self.assertEqual(desk.say("phase jo"), "given")
        works = works_of(*SMALL, "ask jo ann t")
        every, clash = walk_day(
            works, [("still", "jo"), ("trial", "jo"), ("gone", "jo"), ("add_source", "t"), ("add_room", "t")])
        self.assertEqual([deed[0] for _, deed in every], (
            ["begin"] + ["step"] * 4 + ["give", "try_out"] + ["step"] * 4 + ["end"] + ["step"] * 4 + ["add_source"]))
        self.assertEqual(clash, (4, read_deed("add_room t"), "There", ["t"]))
        # A line that came in time, but is told of late: the lot was another one, and so are the steps.
        self.assertEqual(desk.say("paper 155 99 add_line z p t 9"), "done ; 20 21 22")
        self.assertEqual(desk.say("lot jo"), "d f z ; s t ; v w")
        self.assertEqual(desk.say("phase jo"), "still")
        self.assertEqual(desk.say("at 150 jobs"), "none")


if __name__ == "__main__":
    unittest.main()
