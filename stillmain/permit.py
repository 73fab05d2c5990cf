"""Permits: the papers of jobs whose permit is given."""

from stillmain.doors import need
from stillmain.errors import NotNow
from stillmain.kinds import are_names, is_crew, is_name
from stillmain.words import names_or
from stillmain.works import Works


class Permit:
    """A job's name, crew, side, switches and drains, as they were when it was told."""

    def __init__(self, job, crew, side, switches, drains=None):
        need(0, is_name(job))
        need(1, is_crew(crew))
        need(2, are_names(side))
        need(3, are_names(switches))
        need(4, drains is None or are_names(drains))
        self._job = job
        self._crew = list(crew)
        self._side = list(side)
        self._switches = list(switches)
        self._drains = [] if drains is None else list(drains)

    def called(self):
        """Tell the job's name."""
        return self._job

    def crew_now(self):
        """Tell the crew, the holder first."""
        return list(self._crew)

    def side(self):
        """Tell the rooms that are kept dry."""
        return list(self._side)

    def switches(self):
        """Tell the switches that keep the side shut off."""
        return list(self._switches)

    def drains(self):
        """Tell the drains that keep the side dry."""
        return list(self._drains)

    def covers(self, room):
        """Tell whether a room is in the side."""
        need(0, is_name(room))
        return room in self._side

    def __eq__(self, other):
        return (isinstance(other, Permit) and self._job == other._job and self._crew == other._crew
                and self._side == other._side and self._switches == other._switches
                and self._drains == other._drains)

    def __len__(self):
        return len(self._switches)

    def __str__(self):
        return " : ".join([self._job, names_or(self._crew, "-"), names_or(self._side, "-"),
                           names_or(self._switches, "-"), names_or(self._drains, "-")])

    def __repr__(self):
        return f"Permit({str(self)})"


def permit_of(works, job):
    """Tell the permit of a job."""
    need(0, isinstance(works, Works))
    need(1, is_name(job))
    if works.phase(job) != "given":
        raise NotNow(job)
    switches, side, drains = works.lot(job)
    return Permit(job, works.crew_at(job), side, switches, drains)


def permits_of(works, holder=None):
    """Tell the permits of all jobs, by the names of the jobs, or of those that this hand holds."""
    need(0, isinstance(works, Works))
    need(1, holder is None or is_name(holder))
    jobs = [job for job in works.jobs() if works.phase(job) == "given"]
    return [permit_of(works, job) for job in jobs if holder is None or works.crew_at(job)[0] == holder]


def holds_still(works, permit):
    """Tell whether a permit is as the one that the works tells of its job now."""
    need(0, isinstance(works, Works))
    need(1, isinstance(permit, Permit))
    job = permit.called()
    if job not in works.jobs() or works.phase(job) != "given":
        return False
    return permit_of(works, job) == permit
