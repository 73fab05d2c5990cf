"""Points 23 to 28 over long rows of deeds, beside plain notes of what should be there."""

import copy
import random
import unittest

from boards import all_told_of
from samples import many_names
from stillmain.board import Board
from stillmain.errors import Held, InUse, Lacks, MainsError, Stuck, There, TooMany

FIELD = {There: "name", Lacks: "name", InUse: "name", Stuck: "name", TooMany: "most", Held: "hands"}


def hands_on(notes, device, but=None):
    hands = []
    for job, hung in notes["tags"]:
        if hung == device and job != but:
            hands += notes["crews"][job]
    return sorted(set(hands))


def lacking(notes, device=None, job=None):
    due = [(Lacks, device)] if device is not None and device not in notes["devices"] else []
    return due + ([(Lacks, job)] if job is not None and job not in notes["crews"] else [])


def due_of_putting(notes, deed):
    """The refusals that are due when a device is added or a crew is put, in order."""
    if deed[0] == "add":
        there = [(There, deed[1])] if deed[1] in notes["devices"] else []
        return there + ([(TooMany, 52)] if len(notes["devices"]) == 52 else [])
    return [(TooMany, 8)] if deed[1] not in notes["crews"] and len(notes["crews"]) == 8 else []


def due_of_leaving(notes, deed):
    due = lacking(notes, job=deed[1])
    return due + ([(InUse, deed[1])] if deed[1] in [job for job, _ in notes["tags"]] else [])


def due_of_moving(notes, deed):
    """The refusals that are due of a device that is there: take, turn, hold and free, in order."""
    word, device = deed[0], deed[1]
    job = deed[-1] if word in ("hold", "free") else None
    due = lacking(notes, device, job)
    if due:
        return due
    told = notes["devices"][device]
    on_it = [one for one, hung in notes["tags"] if hung == device]
    to = deed[2] if word in ("turn", "hold") else told["stands"]
    if word == "free" and on_it == [job]:
        to = told["home"]
    moves = to != told["stands"]
    held = hands_on(notes, device, job)
    if held and (word in ("take", "turn") or (word == "hold" and moves)):
        due.append((Held, held))
    return due + ([(Stuck, device)] if moves and told["stuck"] else [])


def due_of(notes, deed):
    if deed[0] in ("add", "crew"):
        return due_of_putting(notes, deed)
    if deed[0] == "leave":
        return due_of_leaving(notes, deed)
    if deed[0] in ("stick", "mend"):
        return lacking(notes, deed[1])
    return due_of_moving(notes, deed)


def note_crews(notes, deed):
    if deed[0] == "crew":
        notes["crews"][deed[1]] = list(deed[2])
    elif deed[0] == "leave":
        del notes["crews"][deed[1]]


def note_devices(notes, deed):
    word, device = deed[0], deed[1]
    if word == "add":
        notes["devices"][device] = {"stands": deed[2], "home": deed[2], "stuck": False}
    elif word == "take":
        del notes["devices"][device]
    elif word in ("stick", "mend"):
        notes["devices"][device]["stuck"] = word == "stick"
    elif word == "turn":
        notes["devices"][device].update(stands=deed[2], home=deed[2])


def note_tags(notes, deed):
    word, device = deed[0], deed[1]
    if word == "hold":
        notes["devices"][device]["stands"] = deed[2]
        notes["tags"].add((deed[3], device))
    elif word == "free" and (deed[2], device) in notes["tags"]:
        notes["tags"].discard((deed[2], device))
        if device not in [hung for _, hung in notes["tags"]]:
            notes["devices"][device]["stands"] = notes["devices"][device]["home"]


def told_by(notes):
    """All that a board tells that is as noted."""
    devices, jobs = sorted(notes["devices"]), sorted(notes["crews"])
    on_them = [sorted(job for job, hung in notes["tags"] if hung == device) for device in devices]
    return {
        "devices": devices,
        "jobs": jobs,
        "stands": [notes["devices"][device]["stands"] for device in devices],
        "home": [notes["devices"][device]["home"] for device in devices],
        "is_stuck": [notes["devices"][device]["stuck"] for device in devices],
        "jobs_on": on_them,
        "tags": [sorted((job, hand) for job in on_it for hand in notes["crews"][job])
                 for on_it in on_them],
        "crew_of": [notes["crews"][job] for job in jobs],
        "held_by": [sorted(hung for one, hung in notes["tags"] if one == job) for job in jobs],
        "holders": [[hands_on(notes, device, job) for job in jobs + [None]] for device in devices],
    }


def chance_deed(chance, devices, jobs, hands):
    word = chance.choice((
        "add", "add", "take", "crew", "crew", "leave", "turn", "stick", "mend", "mend",
        "hold", "hold", "hold", "free", "free"))
    device, job = chance.choice(devices), chance.choice(jobs)
    position = chance.choice(("open", "shut"))
    return {
        "add": (word, device, position), "take": (word, device), "leave": (word, job),
        "crew": (word, job, chance.sample(hands, chance.randint(1, 6))),
        "turn": (word, device, position), "stick": (word, device), "mend": (word, device),
        "hold": (word, device, position, job), "free": (word, device, job),
    }[word]


class WalkTest(unittest.TestCase):
    def walk(self, chance, devices, jobs, many, seldom=()):
        """Do deeds by chance, each beside the notes; tell which refusals came."""
        board, came = Board(), {}
        notes = {"devices": {}, "crews": {}, "tags": set()}
        for _ in range(many):
            deed = chance_deed(chance, devices, jobs, many_names(9))
            if deed[0] in seldom and chance.random() < 0.97:
                continue
            refusal = self.assert_done(board, notes, deed)
            came[refusal] = came.get(refusal, 0) + 1
            if chance.random() < 0.1:
                board = board.copied()
        return came

    def assert_done(self, board, notes, deed):
        due = due_of(notes, deed)
        handed = copy.deepcopy(deed)
        caught = None
        try:
            self.assertIsNone(getattr(board, deed[0])(*deed[1:]))
        except MainsError as refusal:
            caught = (type(refusal), getattr(refusal, FIELD[type(refusal)]))
        self.assertEqual(caught, due[0] if due else None, deed)
        self.assertEqual(deed, handed)
        if not due:
            note_crews(notes, deed)
            note_devices(notes, deed)
            note_tags(notes, deed)
        self.assertEqual(all_told_of(board), told_by(notes), deed)
        return (deed[0],) + (due[0][:1] if due else ())

    def test_walks_by_chance(self):
        came = {}
        for seed, many in enumerate((2, 3, 4, 6)):
            chance = random.Random(seed)
            for refusal, times in self.walk(chance, many_names(many), many_names(many), 1500).items():
                came[refusal] = came.get(refusal, 0) + times
        for refusal in (
                ("add", There), ("take", Lacks), ("take", Held), ("leave", Lacks), ("leave", InUse),
                ("turn", Lacks), ("turn", Held), ("turn", Stuck), ("stick", Lacks), ("mend", Lacks),
                ("hold", Lacks), ("hold", Held), ("hold", Stuck), ("free", Lacks), ("free", Stuck),
                ("hold",), ("free",), ("turn",), ("take",), ("leave",)):
            self.assertGreater(came.get(refusal, 0), 5, refusal)

    def test_a_walk_to_the_bounds(self):
        chance = random.Random(28)
        came = self.walk(chance, many_names(60), many_names(10), 2500, ("take", "leave"))
        self.assertGreater(came.get(("add", TooMany), 0), 5)
        self.assertGreater(came.get(("crew", TooMany), 0), 5)


if __name__ == "__main__":
    unittest.main()
