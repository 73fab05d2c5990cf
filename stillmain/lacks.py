"""The refusals of names that a layout lacks, shared by all that ask one."""

from stillmain.errors import Lacks


def switches_in(layout):
    """Tell the lines that have a switch, sorted."""
    return [line for line in layout.lines() if layout.line(line)[2] > 0]


def refuse_no_switch(layout, names):
    """Refuse the first of the names that is no line with a switch."""
    _refuse_first_beside(names, switches_in(layout))


def refuse_no_drain(layout, names):
    """Refuse the first of the names that is no drain."""
    _refuse_first_beside(names, layout.drains())


def refuse_no_room(layout, names):
    """Refuse the first of the names that is no room."""
    _refuse_first_beside(names, layout.rooms())


def _refuse_first_beside(names, there):
    for name in names:
        if name not in there:
            raise Lacks(name)
