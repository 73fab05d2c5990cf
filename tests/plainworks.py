"""A works kept in plain notes, to hold the program's one against: each deed tells an answer."""

from brute import first_shortest_way, least_by_trying, made_layout
from keeping import kept
from stillmain.errors import NoPart
from stillmain.least import least_lot


class Refused(Exception):
    """A deed is refused; made of the word and the things."""


def refuse(word, *things):
    raise Refused(word, list(things))


def refuse_if(due, word, *things):
    if due:
        refuse(word, *things)


def lot_by_trying(layout, barred, rooms):
    """The least lot and its side, of all lots that there are."""
    found = least_by_trying(layout, barred, rooms)
    if found is None:
        free = [line for line in layout.lines() if layout.line(line)[2] and line not in barred]
        refuse("NoPart", *first_shortest_way(layout, free, rooms))
    return found


def lot_as_told(layout, barred, rooms):
    """The lot that stage 4 tells, where there are too many to try."""
    try:
        return least_lot(layout, barred, rooms)
    except NoPart as refusal:
        refuse("NoPart", *refusal.way)


class PlainWorks:
    def __init__(self, lot_of):
        self.lot_of = lot_of
        self.rooms, self.lines, self.drains, self.sources = {}, {}, {}, {}
        # Of each device: [stands, home, stuck]; of each tag (job, device).
        self.devices, self.tags = {}, []
        self.jobs, self.wet = {}, []

    def answer(self, deed):
        ahead = kept(self.told())
        try:
            told = getattr(self, deed[0])(*deed[1:])
        except Refused as refusal:
            assert self.told() == ahead, deed
            return ("refused",) + refusal.args
        self.settle()
        return "done", told

    # What is asked of the notes.

    def joined(self, rooms, shut):
        found = list(rooms)
        for room in found:
            for line, (one, other, _) in self.lines.items():
                if line not in shut and room in (one, other):
                    found += [end for end in (one, other) if end not in found]
        return found

    def shut(self):
        return sorted(line for line, ends in self.lines.items() if ends[2] and self.devices[line][0] == "shut")

    def opened(self):
        return sorted(drain for drain in self.drains if self.devices[drain][0] == "open")

    def settle(self):
        shut, wet = self.shut(), []
        drained = [self.drains[drain] for drain in self.opened()]
        left = list(self.rooms)
        while left:
            part = self.joined(left[:1], shut)
            left = [room for room in left if room not in part]
            if any(one in self.sources for one in part):
                wet += part
            elif not any(one in drained for one in part) and any(one in self.wet for one in part):
                wet += part
        self.wet = sorted(wet)

    def hands(self, jobs):
        return sorted({hand for job in jobs for hand in self.jobs[job]["crew"]})

    def refuse_held(self, jobs):
        refuse_if(jobs, "Held", *self.hands(jobs))

    def jobs_on(self, device):
        return sorted(job for job, one in self.tags if one == device)

    def begun(self):
        return [job for job in self.jobs if self.jobs[job]["phase"] != "by"]

    def steps(self, job):
        told = self.jobs[job]
        switches, drains = told["switches"], told["drains"]
        stands = {device: self.devices[device][0] for device in switches + drains}
        if told["phase"] == "still":
            due = [(one, "shut") for one in switches] + [(one, "open") for one in drains]
            return [step for step in due if stands[step[0]] != step[1] or (job, step[0]) not in self.tags]
        if told["phase"] == "trial":
            homes = [(one, self.devices[one][1]) for one in switches[::-1]]
            return ([(one, "shut") for one in drains[::-1] if stands[one] == "open"]
                    + [(one, home) for one, home in homes if stands[one] != home])
        if told["phase"] == "away":
            return [(one, None) for one in drains[::-1] + switches[::-1] if (job, one) in self.tags]
        return []

    # Deeds on the layout.

    def add_room(self, room):
        refuse_if(room in self.rooms, "There", room)
        refuse_if(len(self.rooms) == 24, "TooMany", 24)
        self.rooms[room] = True

    def add_line(self, line, one, other, cost):
        refuse_if(line in self.lines or line in self.drains, "There", line)
        for room in (one, other):
            refuse_if(room not in self.rooms, "Lacks", room)
        refuse_if(len(self.lines) == 40, "TooMany", 40)
        self.refuse_held([job for job in self.begun()
                          if len({one, other} & set(self.jobs[job]["side"])) == 1])
        self.lines[line] = (one, other, cost)
        if cost:
            self.devices[line] = ["open", "open", False]

    def add_drain(self, drain, room):
        refuse_if(drain in self.lines or drain in self.drains, "There", drain)
        refuse_if(room not in self.rooms, "Lacks", room)
        refuse_if(len(self.drains) == 12, "TooMany", 12)
        self.drains[drain] = room
        self.devices[drain] = ["shut", "shut", False]

    def add_source(self, room):
        refuse_if(room not in self.rooms, "Lacks", room)
        refuse_if(room in self.sources, "There", room)
        self.refuse_held([job for job in self.begun() if room in self.jobs[job]["side"]])
        self.sources[room] = True

    def take_room(self, room):
        refuse_if(room not in self.rooms, "Lacks", room)
        ends = [end for line in self.lines.values() for end in line[:2]]
        refuse_if(room in ends or room in self.drains.values() or room in self.sources, "InUse", room)
        self.refuse_held([job for job, told in self.jobs.items()
                          if room in told["stretch"] or job in self.begun() and room in told["side"]])
        del self.rooms[room]
        self.wet = [other for other in self.wet if other != room]

    def take_line(self, line):
        refuse_if(line not in self.lines, "Lacks", line)
        self.refuse_held([job for job in self.begun() if line in self.jobs[job]["switches"]])
        del self.lines[line]
        self.devices.pop(line, None)

    def take_drain(self, drain):
        refuse_if(drain not in self.drains, "Lacks", drain)
        self.refuse_held([job for job in self.begun() if drain in self.jobs[job]["drains"]])
        del self.drains[drain]
        del self.devices[drain]

    def take_source(self, room):
        refuse_if(room not in self.sources, "Lacks", room)
        del self.sources[room]

    # Deeds on devices.

    def turn(self, line, position):
        refuse_if(line not in self.lines or not self.lines[line][2], "Lacks", line)
        self.refuse_held(self.jobs_on(line))
        refuse_if(self.devices[line][0] != position and self.devices[line][2], "Stuck", line)
        self.devices[line][:2] = [position, position]

    def stick(self, device):
        refuse_if(device not in self.devices, "Lacks", device)
        self.devices[device][2] = True

    def mend(self, device):
        refuse_if(device not in self.devices, "Lacks", device)
        self.devices[device][2] = False

    # Deeds on jobs.

    def ask(self, job, hand, rooms):
        refuse_if(job in self.jobs, "There", job)
        for room in rooms:
            refuse_if(room not in self.rooms, "Lacks", room)
        refuse_if(len(self.jobs) == 8, "TooMany", 8)
        self.jobs[job] = {"stretch": list(rooms), "crew": [hand], "phase": "by", "aim": None,
                          "switches": [], "side": [], "drains": []}

    def job_in(self, job, *phases):
        refuse_if(job not in self.jobs, "Lacks", job)
        refuse_if(self.jobs[job]["phase"] not in phases, "NotNow", job)
        return self.jobs[job]

    def begin(self, job):
        told = self.job_in(job, "by")
        layout = made_layout(self.rooms, [(line,) + self.lines[line] for line in self.lines],
                             self.drains.items(), self.sources)
        barred = [line for line in self.lines if self.devices.get(line, [""])[0::2] == ["open", True]]
        switches, side = self.lot_of(layout, barred, told["stretch"])
        drains = sorted(drain for drain, room in self.drains.items()
                        if room in side and self.devices[drain][0::2] != ["shut", True])
        told.update(phase="still", switches=sorted(switches), side=sorted(side), drains=drains)

    def step(self, job):
        self.job_in(job, "still", "trial", "away")
        refuse_if(not self.steps(job), "NotNow", job)
        device, position = self.steps(job)[0]
        others = [other for other in self.jobs_on(device) if other != job]
        stands, home, stuck = self.devices[device]
        if position is None:
            refuse_if(not others and stands != home and stuck, "Stuck", device)
            self.tags.remove((job, device))
            if not others:
                self.devices[device][0] = home
            self.arrive(job)
            return device, position
        if stands != position:
            self.refuse_held(others)
            refuse_if(stuck, "Stuck", device)
        self.devices[device][0] = position
        if (job, device) not in self.tags:
            self.tags.append((job, device))
        return device, position

    def arrive(self, job):
        told = self.jobs[job]
        if not self.steps(job):
            told.update(phase="by", switches=[], side=[], drains=[])
            if told["aim"] == "ended":
                del self.jobs[job]

    def give(self, job):
        told = self.job_in(job, "still")
        refuse_if(self.steps(job), "NotNow", job)
        damp = [room for room in told["side"] if room in self.wet]
        refuse_if(damp, "NotDry", *damp)
        told["phase"] = "given"

    def single(self, job, *phases):
        told = self.job_in(job, *phases)
        refuse_if(len(told["crew"]) > 1, "Held", *sorted(told["crew"][1:]))
        return told

    def end(self, job):
        self.single(job, "by", "still", "given", "trial").update(phase="away", aim="ended")
        self.arrive(job)

    def put_by(self, job):
        self.single(job, "still", "given", "trial").update(phase="away", aim="by")
        self.arrive(job)

    def try_out(self, job):
        self.single(job, "given")["phase"] = "trial"

    def go_on(self, job):
        self.job_in(job, "trial")["phase"] = "still"

    # Deeds on crews.

    def sign_on(self, job, hand):
        crew = self.job_in(job, "given")["crew"]
        refuse_if(hand in crew, "There", hand)
        refuse_if(len(crew) == 6, "TooMany", 6)
        crew.append(hand)

    def sign_off(self, job, hand):
        crew = self.job_in(job, "given")["crew"]
        refuse_if(hand not in crew, "Lacks", hand)
        refuse_if(len(crew) == 1, "NotNow", job)
        crew.remove(hand)

    def hand_over(self, job, one, other):
        crew = self.job_in(job, "by", "still", "given", "trial", "away")["crew"]
        refuse_if(one not in crew, "Lacks", one)
        refuse_if(other in crew, "There", other)
        crew[crew.index(one)] = other

    def relieve(self, one, other):
        crews = [told["crew"] for told in self.jobs.values() if one in told["crew"]]
        refuse_if(not crews, "Lacks", one)
        refuse_if(any(other in crew for crew in crews), "There", other)
        for crew in crews:
            crew[crew.index(one)] = other

    # All that is told, as all_told_of_works tells it.

    def told_of_layout(self):
        return {
            "rooms": sorted(self.rooms),
            "lines": sorted(self.lines),
            "drains": sorted(self.drains),
            "sources": sorted(self.sources),
            "line": [self.lines[line] for line in sorted(self.lines)],
            "drain": [self.drains[drain] for drain in sorted(self.drains)],
            "lines_at": [sorted(line for line, ends in self.lines.items() if room in ends[:2])
                         for room in sorted(self.rooms)],
        }

    def told_of_board(self):
        devices, jobs = sorted(self.devices), sorted(self.jobs)
        return {
            "devices": devices,
            "jobs": jobs,
            "stands": [self.devices[device][0] for device in devices],
            "home": [self.devices[device][1] for device in devices],
            "is_stuck": [self.devices[device][2] for device in devices],
            "jobs_on": [self.jobs_on(device) for device in devices],
            "tags": [sorted((job, hand) for job in self.jobs_on(device) for hand in self.jobs[job]["crew"])
                     for device in devices],
            "crew_of": [self.jobs[job]["crew"] for job in jobs],
            "held_by": [sorted(device for one, device in self.tags if one == job) for job in jobs],
            "holders": [[self.hands([other for other in self.jobs_on(device) if other != job])
                         for job in jobs + [None]] for device in devices],
        }

    def told(self):
        jobs = sorted(self.jobs)
        told = [self.jobs[job] for job in jobs]
        return {
            "layout": self.told_of_layout(),
            "board": self.told_of_board(),
            "shut": self.shut(),
            "opened": self.opened(),
            "wet": self.wet,
            "jobs": jobs,
            "phase": [job["phase"] for job in told],
            "stretch": [job["stretch"] for job in told],
            "crew_at": [job["crew"] for job in told],
            "steps_left": [self.steps(job) for job in jobs],
            "lot": [(job["switches"], job["side"], job["drains"]) for job in told],
        }
