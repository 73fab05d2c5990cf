"""The board: devices, where they stand, and whose tags hang on them."""

from stillmain.doors import need
from stillmain.errors import Held, InUse, Lacks, Stuck, There, TooMany
from stillmain.kinds import is_crew, is_name, is_position

MOST_DEVICES = 52
MOST_JOBS = 8


class Board:
    """Devices and jobs, by their names."""

    def __init__(self):
        # Of each device: where it stands, its home, whether it is stuck, and the jobs whose
        # tags hang on it, a dict of True.
        self._stands = {}
        self._homes = {}
        self._stuck = {}
        self._hung = {}
        # Of each job its crew. Tags are kept by their jobs, so they follow the crews.
        self._crews = {}

    def add(self, device, position):
        """Add a device, with the position at which it stands as its home."""
        need(0, is_name(device))
        need(1, is_position(position))
        if device in self._stands:
            raise There(device)
        if len(self._stands) >= MOST_DEVICES:
            raise TooMany(MOST_DEVICES)
        self._stands[device] = position
        self._homes[device] = position
        self._stuck[device] = False
        self._hung[device] = {}

    def take(self, device):
        """Take a device away on which no tags hang."""
        need(0, is_name(device))
        self._refuse_no_device(device)
        self._refuse_held(device, None)
        del self._stands[device]
        del self._homes[device]
        del self._stuck[device]
        del self._hung[device]

    def crew(self, job, hands):
        """Give a job these hands as its crew."""
        need(0, is_name(job))
        need(1, is_crew(hands))
        if job not in self._crews and len(self._crews) >= MOST_JOBS:
            raise TooMany(MOST_JOBS)
        self._crews[job] = list(hands)

    def leave(self, job):
        """Let a job go whose tags hang nowhere."""
        need(0, is_name(job))
        self._refuse_no_job(job)
        if self._held(job):
            raise InUse(job)
        del self._crews[job]

    def turn(self, device, position):
        """Make a device on which no tags hang stand there, and make this its home."""
        need(0, is_name(device))
        need(1, is_position(position))
        self._refuse_no_device(device)
        self._refuse_held(device, None)
        self._move(device, position)
        self._homes[device] = position

    def stick(self, device):
        """Note that a device is stuck, till it is mended or taken away."""
        need(0, is_name(device))
        self._refuse_no_device(device)
        self._stuck[device] = True

    def mend(self, device):
        """Note that a device is stuck no longer."""
        need(0, is_name(device))
        self._refuse_no_device(device)
        self._stuck[device] = False

    def hold(self, device, position, job):
        """Make a device stand there and hang the job's tags on it."""
        need(0, is_name(device))
        need(1, is_position(position))
        need(2, is_name(job))
        self._refuse_no_device(device)
        self._refuse_no_job(job)
        if self._stands[device] != position:
            self._refuse_held(device, job)
        self._move(device, position)
        self._hung[device][job] = True

    def free(self, device, job):
        """Take the job's tags off a device, which goes home when they were the last."""
        need(0, is_name(device))
        need(1, is_name(job))
        self._refuse_no_device(device)
        self._refuse_no_job(job)
        if job in self._hung[device]:
            if len(self._hung[device]) == 1:
                self._move(device, self._homes[device])
            del self._hung[device][job]

    def devices(self):
        """Tell the devices, sorted."""
        return sorted(self._stands)

    def jobs(self):
        """Tell the jobs, sorted."""
        return sorted(self._crews)

    def stands(self, device):
        """Tell where a device stands."""
        need(0, is_name(device))
        self._refuse_no_device(device)
        return self._stands[device]

    def home(self, device):
        """Tell a device's home."""
        need(0, is_name(device))
        self._refuse_no_device(device)
        return self._homes[device]

    def is_stuck(self, device):
        """Tell whether a device is stuck."""
        need(0, is_name(device))
        self._refuse_no_device(device)
        return self._stuck[device]

    def jobs_on(self, device):
        """Tell the jobs whose tags hang on a device, sorted."""
        need(0, is_name(device))
        self._refuse_no_device(device)
        return sorted(self._hung[device])

    def tags(self, device):
        """Tell the tags on a device, tuples of a job and a hand, sorted."""
        need(0, is_name(device))
        self._refuse_no_device(device)
        return sorted([(job, hand) for job in self._hung[device] for hand in self._crews[job]])

    def crew_of(self, job):
        """Tell a job's crew, in the order in which it was handed in."""
        need(0, is_name(job))
        self._refuse_no_job(job)
        return list(self._crews[job])

    def held_by(self, job):
        """Tell the devices on which a job's tags hang, sorted."""
        need(0, is_name(job))
        self._refuse_no_job(job)
        return self._held(job)

    def holders(self, device, job):
        """Tell the hands of all jobs but this one whose tags hang on a device, sorted."""
        need(0, is_name(device))
        need(1, job is None or is_name(job))
        self._refuse_no_device(device)
        return self._hands_on(device, job)

    def copied(self):
        """Tell a board that is alike and goes on by itself."""
        twin = Board()
        twin._stands = dict(self._stands)
        twin._homes = dict(self._homes)
        twin._stuck = dict(self._stuck)
        twin._hung = {device: dict(self._hung[device]) for device in self._hung}
        twin._crews = {job: list(self._crews[job]) for job in self._crews}
        return twin

    def _refuse_no_device(self, device):
        if device not in self._stands:
            raise Lacks(device)

    def _refuse_no_job(self, job):
        if job not in self._crews:
            raise Lacks(job)

    def _refuse_held(self, device, but):
        hands = self._hands_on(device, but)
        if hands:
            raise Held(hands)

    def _move(self, device, position):
        if self._stands[device] != position:
            if self._stuck[device]:
                raise Stuck(device)
            self._stands[device] = position

    def _hands_on(self, device, but):
        jobs = [job for job in self._hung[device] if job != but]
        # A hand may be in the crews of several jobs.
        return sorted({hand for job in jobs for hand in self._crews[job]})

    def _held(self, job):
        return sorted([device for device in self._hung if job in self._hung[device]])
