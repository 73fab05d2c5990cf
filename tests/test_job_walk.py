"""Points 29 to 35 over long rows of deeds: jobs at one board, beside plain notes and a board of their own."""

import random
import unittest

from boards import all_told_of
from refusing import FIELD
from samples import many_names
from stillmain.board import Board
from stillmain.errors import Held, Lacks, MainsError, NotNow, There, TooMany
from stillmain.job import Job

NOT_ENDED = ("by", "still", "given", "trial", "away")
LET_BY = {
    "begin": ("by",), "go_on": ("trial",), "try_out": ("given",), "put_by": ("still", "given", "trial"),
    "end": ("by", "still", "given", "trial"), "sign_on": ("given",), "sign_off": ("given",),
    "hand_over": NOT_ENDED,
}
OF_BOARD = ("turn", "turn", "stick", "mend", "mend")


def new_notes(name, hand, rooms):
    return {"name": name, "phase": "by", "aim": None, "stretch": list(rooms), "crew": [hand],
            "switches": [], "drains": []}


def steps_due(notes, board):
    name, switches, drains = notes["name"], notes["switches"], notes["drains"]
    steps = []
    if notes["phase"] == "still":
        wanted = [(one, "shut") for one in switches] + [(one, "open") for one in drains]
        for one, position in wanted:
            if not (board.stands(one) == position and name in board.jobs_on(one)):
                steps.append((one, position))
    if notes["phase"] == "trial":
        for one in reversed(drains):
            if board.stands(one) == "open":
                steps.append((one, "shut"))
        for one in reversed(switches):
            if board.stands(one) != board.home(one):
                steps.append((one, board.home(one)))
    if notes["phase"] == "away":
        held = board.held_by(name)
        steps = [(one, None) for one in reversed(switches + drains) if one in held]
    return steps


def due_of(notes, board, deed):
    """The first refusal that is due, but those that the board tells of a step."""
    word, crew = deed[0], notes["crew"]
    not_now = (NotNow, notes["name"])
    if word == "step":
        return None if steps_due(notes, board) else not_now
    if word == "give":
        return None if notes["phase"] == "still" and not steps_due(notes, board) else not_now
    if notes["phase"] not in LET_BY[word]:
        return not_now
    if word == "begin":
        lacking = [one for one in deed[1] + deed[2] if one not in board.devices()]
        return (Lacks, lacking[0]) if lacking else None
    if word in ("try_out", "put_by", "end"):
        return (Held, sorted(crew[1:])) if crew[1:] else None
    if word == "go_on":
        return None
    if word == "sign_on":
        if deed[1] in crew:
            return There, deed[1]
        return (TooMany, 6) if len(crew) == 6 else None
    if deed[1] not in crew:
        return Lacks, deed[1]
    if word == "sign_off":
        return not_now if len(crew) == 1 else None
    return (There, deed[2]) if deed[2] in crew else None


def note(notes, board, deed):
    """Do what is due at the notes and at their board; tell what is due to be told."""
    word, name, told = deed[0], notes["name"], None
    if word == "begin":
        notes.update(phase="still", switches=list(deed[1]), drains=list(deed[2]))
    elif word == "step":
        told = steps_due(notes, board)[0]
        if told[1] is None:
            board.free(told[0], name)
        else:
            board.hold(told[0], told[1], name)
    elif word in ("give", "try_out", "go_on"):
        notes["phase"] = {"give": "given", "try_out": "trial", "go_on": "still"}[word]
    elif word in ("put_by", "end"):
        notes.update(phase="away", aim={"put_by": "by", "end": "ended"}[word])
    else:
        crew = notes["crew"]
        if word == "sign_on":
            crew.append(deed[1])
        elif word == "sign_off":
            crew.remove(deed[1])
        else:
            crew[crew.index(deed[1])] = deed[2]
        board.crew(name, crew)
    if notes["phase"] == "away" and not steps_due(notes, board):
        notes.update(phase=notes["aim"], switches=[], drains=[])
        if notes["phase"] == "ended":
            notes["crew"] = []
            board.leave(name)
    return told


def chance_deed(chance, devices, hands, notes):
    words = ["step"] * 7 + ["give"] * 3 + [
        "begin", "try_out", "try_out", "go_on", "put_by", "end", "sign_on", "sign_on", "sign_off",
        "sign_off", "hand_over", "hand_over"]
    if chance.random() < 0.4:
        # Else too few deeds are let by.
        words = ["begin"] if notes["phase"] == "by" else ["step", "give", "try_out", "go_on"]
    word = chance.choice(words)
    if word == "begin":
        some = chance.sample(devices, chance.randint(0, min(5, len(devices))))
        many = chance.randint(0, len(some))
        return word, some[:many], some[many:]
    if word in ("sign_on", "sign_off", "hand_over"):
        one = chance.choice(hands + notes["crew"] * 3)
        return (word, one) + ((chance.choice(hands),) if word == "hand_over" else ())
    return (word,)


class WalkTest(unittest.TestCase):
    def walk(self, seed, many_devices, many_jobs, many):
        chance = random.Random(seed)
        devices, hands = many_names(many_devices), many_names(7)
        board, noted = Board(), Board()
        for one in devices[1:]:
            position = chance.choice(("open", "shut"))
            board.add(one, position)
            noted.add(one, position)
        jobs, came = {}, {}
        for _ in range(many):
            name = chance.choice(many_names(many_jobs))
            if chance.random() < 0.15:
                self.do_at_board(chance, board, noted, devices)
            elif name not in noted.jobs():
                hand, rooms = chance.choice(hands), chance.sample(devices, 2)
                jobs[name] = (Job(board, name, hand, rooms), new_notes(name, hand, rooms))
                noted.crew(name, [hand])
            else:
                deed = chance_deed(chance, devices, hands, jobs[name][1])
                answer = self.assert_done(jobs[name], noted, deed)
                came[answer] = came.get(answer, 0) + 1
            for job, notes in jobs.values():
                self.assert_noted(job, notes, noted)
            self.assertEqual(all_told_of(board), all_told_of(noted))
            if chance.random() < 0.1:
                board = board.copied()
                jobs = {name: (job.copied(board), notes) for name, (job, notes) in jobs.items()}
        return came

    def do_at_board(self, chance, board, noted, devices):
        word = chance.choice(OF_BOARD)
        handed = (chance.choice(devices),) + ((chance.choice(("open", "shut")),) if word == "turn" else ())
        answers = []
        for one in (board, noted):
            try:
                answers.append(getattr(one, word)(*handed))
            except MainsError as refusal:
                answers.append(type(refusal))
        self.assertEqual(answers[0], answers[1])

    def assert_done(self, pair, noted, deed):
        (job, notes), caught = pair, None
        due = due_of(notes, noted, deed)
        try:
            told = getattr(job, deed[0])(*deed[1:])
        except MainsError as refusal:
            caught = (type(refusal), getattr(refusal, FIELD[type(refusal)]))
        if due is None:
            try:
                told_due = note(notes, noted, deed)
            except MainsError as refusal:
                due = (type(refusal), getattr(refusal, FIELD[type(refusal)]))
        self.assertEqual(caught, due, (deed, notes))
        if due is None:
            self.assertEqual(told, told_due, (deed, notes))
        return deed[0], due and due[0].__name__

    def assert_noted(self, job, notes, noted):
        self.assertEqual(
            (job.called(), job.phase(), job.stretch(), job.switches(), job.drains(), job.crew_now(),
             job.steps()),
            (notes["name"], notes["phase"], notes["stretch"], notes["switches"], notes["drains"],
             notes["crew"], steps_due(notes, noted)))
        # Point 35: no drain of the job stands open with its tags but behind all of its switches.
        if any("open" == noted.stands(one) and notes["name"] in noted.jobs_on(one) for one in job.drains()):
            for one in job.switches():
                self.assertEqual(noted.stands(one), "shut")
                self.assertIn(notes["name"], noted.jobs_on(one))

    def test_walks_by_chance(self):
        came = {}
        for seed, (devices, jobs, many) in enumerate(((3, 1, 1500), (5, 2, 1500), (7, 3, 1500), (9, 8, 1500))):
            for answer, times in self.walk(seed, devices, jobs, many).items():
                came[answer] = came.get(answer, 0) + times
        for answer in (
                ("begin", None), ("begin", "NotNow"), ("begin", "Lacks"), ("step", None),
                ("step", "NotNow"), ("step", "Held"), ("step", "Stuck"), ("give", None), ("give", "NotNow"),
                ("try_out", None), ("try_out", "NotNow"), ("try_out", "Held"), ("go_on", None),
                ("go_on", "NotNow"), ("put_by", None), ("put_by", "NotNow"), ("put_by", "Held"),
                ("end", None), ("end", "NotNow"), ("end", "Held"), ("sign_on", None), ("sign_on", "NotNow"),
                ("sign_on", "There"), ("sign_off", None), ("sign_off", "Lacks"), ("sign_off", "NotNow"),
                ("hand_over", None), ("hand_over", "Lacks"), ("hand_over", "There")):
            self.assertGreater(came.get(answer, 0), 3, (answer, came))


if __name__ == "__main__":
    unittest.main()
