"""What holds of a works at every moment (points 5 to 9), to be asserted of any works."""

import unittest

from brute import joined_with
from refusing import FIELD
from stillmain.dry import amiss
from stillmain.errors import MainsError
from stillmain.least import cost_of, ways_to
from stillmain.works import Works
from workses import all_told_of_works

NAMELESS = ("add_room", "take_room", "add_line", "take_line", "add_drain", "take_drain", "add_source",
            "take_source", "turn", "stick", "mend")


def answer_of(works, deed):
    """What a works' method tells, as point 44 has it."""
    try:
        return "done", getattr(works, deed[0])(*deed[1:])
    except MainsError as refusal:
        thing = getattr(refusal, FIELD[type(refusal)])
        return "refused", type(refusal).__name__, thing if type(thing) is list else [thing]


class Whole(unittest.TestCase):
    """What holds of a works at every moment."""

    def assert_whole(self, works, homes):
        live = joined_with(works.layout(), works.shut(), works.layout().sources())
        for drain in works.opened():
            self.assertNotIn(works.layout().drain(drain), live)
        for job in works.jobs():
            if works.phase(job) == "given":
                self.assert_kept(works, job, live)
        board = works.board()
        for device in board.devices():
            if not board.jobs_on(device):
                self.assertEqual(board.stands(device), homes[device], device)

    def assert_kept(self, works, job, live):
        """Point 5, of a job whose permit is given."""
        layout, board, (_, side, _) = works.layout(), works.board(), works.lot(job)
        crew = works.crew_at(job)
        self.assertLessEqual(set(works.stretch(job)), set(side))
        for room in side:
            self.assertNotIn(room, live)
            self.assertNotIn(room, works.wet())
            self.assertNotIn(room, layout.sources())
        for line in layout.lines():
            one, other, cost = layout.line(line)
            if (one in side) != (other in side):
                self.assertGreater(cost, 0)
                self.assertEqual(board.stands(line), "shut")
                self.assertEqual(sorted(hand for of, hand in board.tags(line) if of == job), sorted(crew))
        self.assertIsNone(amiss(works, job, side))

    def assert_least(self, works, job, barred):
        """Point 9, of a job that is just begun."""
        layout, (switches, side, _) = works.layout(), works.lot(job)
        ways = ways_to(layout, barred, works.stretch(job))
        self.assertEqual(sum(amount for amount, _ in ways), cost_of(layout, switches))
        self.assertEqual(joined_with(layout, switches, works.stretch(job)), side)
        self.assertFalse(set(side) & set(layout.sources()))
        self.assertFalse(set(switches) & set(barred))

    def note(self, homes, deed):
        """Keep where each device stands when no tags hang on it."""
        if deed[0] == "add_line" and deed[4]:
            homes[deed[1]] = "open"
        elif deed[0] == "add_drain":
            homes[deed[1]] = "shut"
        elif deed[0] == "turn":
            homes[deed[1]] = deed[2]

    def end_all(self, works, chance):
        """End all jobs, one with another; nothing but what is stuck is in their way (point 7)."""
        mended = []
        while works.jobs():
            job = chance.choice(works.jobs())
            if works.phase(job) == "away":
                answer = answer_of(works, ("step", job))
                if answer[0] == "refused":
                    self.assertEqual(answer[1], "Stuck")
                    works.mend(answer[2][0])
                    mended.append(("mend", answer[2][0]))
                continue
            for hand in works.crew_at(job)[1:]:
                works.sign_off(job, hand)
            works.end(job)
        return mended

    def assert_as_it_stood(self, works, deeds):
        """Point 7: as a works to which just the deeds that name no job and no hand are done."""
        beside = Works()
        for deed in deeds:
            getattr(beside, deed[0])(*deed[1:])
        told, due = all_told_of_works(works), all_told_of_works(beside)
        for part in ("layout", "board", "shut", "opened", "jobs"):
            self.assertEqual(told[part], due[part], part)
