"""The works: a layout, the board of its devices, the jobs at this board, and the rooms that are wet."""

from stillmain.board import Board
from stillmain.doors import need
from stillmain.errors import Held, Lacks, NotDry, NotNow, There
from stillmain.job import Job
from stillmain.kinds import is_name, is_position, is_stretch
from stillmain.lacks import refuse_no_room, refuse_no_switch, switches_in
from stillmain.layout import Layout
from stillmain.least import least_lot
from stillmain.water import settled


class Works:
    """A works of mains, on which deeds are done one after another."""

    def __init__(self):
        self._layout = Layout()
        self._board = Board()
        self._jobs = {}
        # Of each job its side; none while it isn't begun.
        self._sides = {}
        self._wet = []

    def add_room(self, room):
        """Add a room, which is dry."""
        self._layout.add_room(room)
        self._settle()

    def add_line(self, line, one, other, cost):
        """Add a line, with its switch open if it has one, but over the edge of no begun job's side."""
        # The guards come behind all that a layout refuses, and what they refuse changes nothing:
        # so it is done at a copy first.
        changed = self._layout.copied()
        changed.add_line(line, one, other, cost)
        self._refuse_to_touch([job for job in self._jobs
                               if (one in self._sides[job]) != (other in self._sides[job])])
        self._layout = changed
        if cost > 0:
            self._board.add(line, "open")
        self._settle()

    def add_drain(self, drain, room):
        """Add a drain, which stands shut."""
        self._layout.add_drain(drain, room)
        self._board.add(drain, "shut")
        self._settle()

    def add_source(self, room):
        """Make a room a source that is in no begun job's side."""
        changed = self._layout.copied()
        changed.add_source(room)
        self._refuse_to_touch([job for job in self._jobs if room in self._sides[job]])
        self._layout = changed
        self._settle()

    def take_room(self, room):
        """Take a room away that is in no begun job's side and in no job's stretch."""
        changed = self._layout.copied()
        changed.take_room(room)
        self._refuse_to_touch([job for job in self._jobs
                               if room in self._sides[job] or room in self._jobs[job].stretch()])
        self._layout = changed
        # A room of this name that comes again is a new one, and dry.
        self._wet = [other for other in self._wet if other != room]
        self._settle()

    def take_line(self, line):
        """Take a line away that is in no begun job's lot."""
        changed = self._layout.copied()
        changed.take_line(line)
        self._refuse_to_touch([job for job in self._jobs if line in self._jobs[job].switches()])
        self._layout = changed
        if line in self._board.devices():
            self._board.take(line)
        self._settle()

    def take_drain(self, drain):
        """Take a drain away that is in no begun job's lot."""
        changed = self._layout.copied()
        changed.take_drain(drain)
        self._refuse_to_touch([job for job in self._jobs if drain in self._jobs[job].drains()])
        self._layout = changed
        self._board.take(drain)
        self._settle()

    def take_source(self, room):
        """Make a source a room like others."""
        self._layout.take_source(room)
        self._settle()

    def turn(self, line, position):
        """Turn a line's switch."""
        need(0, is_name(line))
        need(1, is_position(position))
        refuse_no_switch(self._layout, [line])
        self._board.turn(line, position)
        self._settle()

    def stick(self, device):
        """Note that a device is stuck."""
        self._board.stick(device)

    def mend(self, device):
        """Note that a device is stuck no longer."""
        self._board.mend(device)

    def ask(self, job, hand, rooms):
        """Ask for a job in this stretch, with this hand as its holder."""
        need(0, is_name(job))
        need(1, is_name(hand))
        need(2, is_stretch(rooms))
        if job in self._jobs:
            raise There(job)
        refuse_no_room(self._layout, rooms)
        self._jobs[job] = Job(self._board, job, hand, rooms)
        self._sides[job] = []

    def begin(self, job):
        """Begin a job with the least lot that parts its stretch."""
        begun = self._found(job)
        if begun.phase() != "by":
            raise NotNow(job)
        barred = [switch for switch in switches_in(self._layout) if self._is_fast(switch, "open")]
        switches, side = least_lot(self._layout, barred, begun.stretch())
        begun.begin(switches, [drain for drain in self._drains_in(side) if not self._is_fast(drain, "shut")])
        self._sides[job] = side

    def step(self, job):
        """Do the first step that is left of a job, and tell it."""
        step = self._found(job).step()
        self._note_end_of(job)
        self._settle()
        return step

    def give(self, job):
        """Give a job its permit, where its side is dry."""
        if not self._found(job).is_ready():
            raise NotNow(job)
        damp = [room for room in self._sides[job] if room in self._wet]
        if damp:
            raise NotDry(damp)
        self._jobs[job].give()

    def end(self, job):
        """Send a job away for good."""
        self._found(job).end()
        self._note_end_of(job)

    def put_by(self, job):
        """Send a job away, to be begun again."""
        self._found(job).put_by()
        self._note_end_of(job)

    def try_out(self, job):
        """Take a job's permit back to try its stretch out."""
        self._found(job).try_out()

    def go_on(self, job):
        """Go on with a job after a trial."""
        self._found(job).go_on()

    def sign_on(self, job, hand):
        """Put a hand behind the others of a job's crew."""
        need(0, is_name(job))
        need(1, is_name(hand))
        self._found(job).sign_on(hand)

    def sign_off(self, job, hand):
        """Take a hand off a job's crew."""
        need(0, is_name(job))
        need(1, is_name(hand))
        self._found(job).sign_off(hand)

    def hand_over(self, job, one, other):
        """Put another hand in the place of one in a job's crew."""
        need(0, is_name(job))
        need(1, is_name(one))
        need(2, is_name(other))
        self._found(job).hand_over(one, other)

    def relieve(self, one, other):
        """Put another hand in the place of one in each crew in which this one is."""
        need(0, is_name(one))
        need(1, is_name(other))
        jobs = [job for job in self._jobs.values() if one in job.crew_now()]
        if not jobs:
            raise Lacks(one)
        if any([other in job.crew_now() for job in jobs]):
            raise There(other)
        for job in jobs:
            job.hand_over(one, other)

    def layout(self):
        """Tell a copy of the layout."""
        return self._layout.copied()

    def board(self):
        """Tell a copy of the board."""
        return self._board.copied()

    def shut(self):
        """Tell the switches that stand shut, sorted."""
        return [switch for switch in switches_in(self._layout) if self._board.stands(switch) == "shut"]

    def opened(self):
        """Tell the drains that stand open, sorted."""
        return [drain for drain in self._layout.drains() if self._board.stands(drain) == "open"]

    def wet(self):
        """Tell the rooms that are wet, sorted."""
        return list(self._wet)

    def jobs(self):
        """Tell the jobs, sorted."""
        return sorted(self._jobs)

    def phase(self, job):
        """Tell a job's phase."""
        return self._found(job).phase()

    def stretch(self, job):
        """Tell a job's stretch, as it was handed in."""
        return self._found(job).stretch()

    def crew_at(self, job):
        """Tell a job's crew, the holder first."""
        return self._found(job).crew_now()

    def steps_left(self, job):
        """Tell the steps that are left of a job."""
        return self._found(job).steps()

    def lot(self, job):
        """Tell a job's switches, its side and its drains; none of each where it isn't begun."""
        begun = self._found(job)
        return begun.switches(), list(self._sides[job]), begun.drains()

    def copied(self):
        """Tell a works that is alike and goes on by itself."""
        twin = Works()
        twin._layout = self._layout.copied()
        twin._board = self._board.copied()
        twin._jobs = {job: self._jobs[job].copied(twin._board) for job in self._jobs}
        twin._sides = {job: list(self._sides[job]) for job in self._sides}
        twin._wet = list(self._wet)
        return twin

    def _found(self, job):
        need(0, is_name(job))
        if job not in self._jobs:
            raise Lacks(job)
        return self._jobs[job]

    def _refuse_to_touch(self, jobs):
        if jobs:
            # A hand may be in the crews of several jobs.
            raise Held(sorted({hand for job in jobs for hand in self._jobs[job].crew_now()}))

    def _is_fast(self, device, position):
        return self._board.stands(device) == position and self._board.is_stuck(device)

    def _drains_in(self, rooms):
        return [drain for drain in self._layout.drains() if self._layout.drain(drain) in rooms]

    def _note_end_of(self, job):
        phase = self._jobs[job].phase()
        if phase == "by":
            self._sides[job] = []
        if phase == "ended":
            del self._jobs[job]
            del self._sides[job]

    def _settle(self):
        self._wet = settled(self._layout, self.shut(), self.opened(), self._wet)
