"""What is amiss with a list of rooms as what keeps a job dry."""

from stillmain.doors import need
from stillmain.errors import Lacks
from stillmain.kinds import are_names, is_name
from stillmain.reach import border_of
from stillmain.works import Works


def amiss(works, job, rooms):
    """Tell what is amiss, in a tuple with the room or the line where it is; None where nothing is."""
    need(0, isinstance(works, Works))
    need(1, is_name(job))
    need(2, are_names(rooms))
    if job not in works.jobs():
        raise Lacks(job)
    layout = works.layout()
    for room in rooms:
        if room not in layout.rooms():
            return "lacks", room
    for room in works.stretch(job):
        if room not in rooms:
            return "stretch", room
    for room in sorted(rooms):
        if room in layout.sources():
            return "source", room
    for room in sorted(rooms):
        if room in works.wet():
            return "wet", room
    kept = _kept_shut(works, job)
    for line in border_of(layout, rooms):
        if line not in kept:
            return "out", line
    return None


def _kept_shut(works, job):
    held = works.board().held_by(job)
    return [switch for switch in works.shut() if switch in held]
