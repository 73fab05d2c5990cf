"""Deeds by chance, most of them such as may be let by."""

from samples import many_names

# How often each word is drawn.
OFTEN = {
    "add_room": 2, "take_room": 3, "add_line": 5, "take_line": 3, "add_drain": 3, "take_drain": 2,
    "add_source": 2, "take_source": 1, "turn": 6, "stick": 3, "mend": 5, "ask": 5, "begin": 3, "step": 6,
    "give": 2, "end": 2, "put_by": 2, "try_out": 2, "go_on": 2, "sign_on": 4, "sign_off": 4,
    "hand_over": 2, "relieve": 2,
}
WORDS = [word for word, often in OFTEN.items() for _ in range(often)]


class Pool:
    """The names that deeds by chance are made of."""

    def __init__(self, rooms, lines, drains, jobs, hands, costs=(0, 1, 1, 2, 3, 5, 9)):
        names = many_names(63)
        self.rooms = names[:rooms]
        # Lines and drains share names, so that one is found where the other is wanted.
        self.lines = ["l" + name for name in names[:lines]]
        self.drains = ["d" + name for name in names[:drains]] + self.lines[:1]
        self.jobs = names[:jobs]
        self.hands = names[:hands]
        self.costs = costs

    def layout_deeds(self, chance, lines, drains):
        """The deeds of a layout of all rooms, so many lines and drains, and two sources."""
        deeds = [("add_room", room) for room in self.rooms]
        for line in self.lines[:lines]:
            # The last rooms of many stay without lines, so that they can be taken away.
            ends = chance.sample(self.rooms[:22], 2)
            deeds.append(("add_line", line) + tuple(ends) + (chance.choice(self.costs),))
        deeds += [("add_drain", drain, chance.choice(self.rooms)) for drain in self.drains[:drains]]
        return deeds + [("add_source", room) for room in self.rooms[:2]]

    def deed(self, chance, works):
        """A deed, with an eye on how the works stands."""
        if not works.jobs() and chance.random() < 0.5:
            return "ask", chance.choice(self.jobs), chance.choice(self.hands), [chance.choice(self.rooms)]
        if works.jobs() and chance.random() < 0.5:
            return self.next_of(chance, works, chance.choice(works.jobs()))
        word = chance.choice(WORDS)
        if word.split("_")[0] in ("add", "take") or word in ("turn", "stick", "mend"):
            return (word,) + self.of_layout(chance, works, word)
        return (word,) + self.of_jobs(chance, works, word)

    def next_of(self, chance, works, job):
        """What brings a job on, mostly."""
        phase, crew = works.phase(job), works.crew_at(job)
        if phase == "away" or works.steps_left(job) and chance.random() < 0.9:
            return "step", job
        if phase == "by":
            return ("begin", job) if chance.random() < 0.7 else ("end", job)
        if phase == "given" and len(crew) > 1:
            # Company is in the way of all that follows.
            return chance.choice((("sign_off", job, chance.choice(crew)),) * 5
                                 + (("try_out", job), ("put_by", job), ("end", job)))
        if phase == "given":
            hand = chance.choice(self.hands)
            return chance.choice((
                ("sign_on", job, hand), ("sign_on", job, hand), ("hand_over", job, crew[0], hand),
                ("relieve", crew[0], hand), ("try_out", job), ("try_out", job), ("put_by", job), ("end", job)))
        if phase == "trial":
            return ("go_on", job) if chance.random() < 0.8 else ("put_by", job)
        dry = not set(works.lot(job)[1]) & set(works.wet())
        return ("give", job) if dry or chance.random() < 0.4 else ("put_by", job)

    def of_layout(self, chance, works, word):
        room, line = chance.choice(self.rooms), chance.choice(self.lines)
        if word == "take_room" and chance.random() < 0.5:
            bare = [one for one in works.layout().rooms() if not works.layout().lines_at(one)]
            return (chance.choice(bare or self.rooms),)
        if word == "take_source" and chance.random() < 0.7:
            return (chance.choice(works.layout().sources() or self.rooms),)
        if word == "add_line":
            return (line,) + tuple(chance.sample(self.rooms, 2)) + (chance.choice(self.costs),)
        if word == "take_line":
            return (line,)
        if word == "add_drain":
            return chance.choice(self.drains), room
        if word == "take_drain":
            return (chance.choice(self.drains),)
        if word == "turn":
            return line, chance.choice(("open", "shut"))
        if word in ("stick", "mend"):
            return (chance.choice(self.lines + self.drains),)
        return (room,)

    def of_jobs(self, chance, works, word):
        job = chance.choice(works.jobs() * 2 + self.jobs)
        crew = works.crew_at(job) if job in works.jobs() else []
        one, other = chance.choice(crew * 3 + self.hands), chance.choice(self.hands)
        if word == "ask":
            job = chance.choice(self.jobs)
            bare = [room for room in self.rooms if room not in works.layout().sources()]
            rooms = bare if bare and chance.random() < 0.8 else self.rooms
            return job, one, chance.sample(rooms, min(chance.choice((1, 1, 1, 2, 3)), len(rooms)))
        if word in ("sign_on", "sign_off"):
            return job, one
        if word == "hand_over":
            return job, one, other
        return (one, other) if word == "relieve" else (job,)


def words_of(deed):
    """A deed's text, as point 45 tells it."""
    words = []
    for part in deed:
        words += part if type(part) is list else [str(part)]
    return " ".join(words)
