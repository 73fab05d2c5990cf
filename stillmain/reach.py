"""What is joined with what while some lines stand shut."""

from stillmain.doors import need
from stillmain.kinds import are_names, is_stretch
from stillmain.lacks import refuse_no_room, refuse_no_switch
from stillmain.layout import Layout
from stillmain.leads import first_way, leads_of, reached


def side_of(layout, shut, rooms):
    """Tell all rooms that are joined with a room of the stretch, sorted."""
    _check_stretch(layout, shut, rooms)
    return reached(leads_of(layout, shut), rooms)


def parts_of(layout, shut):
    """Tell all rooms in lists of those that are joined, each sorted, by their first rooms."""
    _check_shut(layout, shut)
    leads = leads_of(layout, shut)
    parts = []
    placed = {}
    for room in layout.rooms():
        if room not in placed:
            part = reached(leads, [room])
            placed.update({member: True for member in part})
            parts.append(part)
    return parts


def live_rooms(layout, shut):
    """Tell the rooms that are joined with a source, sorted."""
    _check_shut(layout, shut)
    return reached(leads_of(layout, shut), layout.sources())


def border_of(layout, rooms):
    """Tell the lines that have just one end among the rooms, sorted."""
    need(0, isinstance(layout, Layout))
    need(1, are_names(rooms))
    refuse_no_room(layout, rooms)
    border = []
    for line in layout.lines():
        one, other, _ = layout.line(line)
        if (one in rooms) != (other in rooms):
            border.append(line)
    return border


def way_to(layout, shut, rooms):
    """Tell the first of the shortest ways from a source to the stretch, None where there is none."""
    _check_stretch(layout, shut, rooms)
    return first_way(leads_of(layout, shut), layout.sources(), rooms)


def _check_shut(layout, shut):
    need(0, isinstance(layout, Layout))
    need(1, are_names(shut))
    refuse_no_switch(layout, shut)


def _check_stretch(layout, shut, rooms):
    need(0, isinstance(layout, Layout))
    need(1, are_names(shut))
    need(2, is_stretch(rooms))
    refuse_no_switch(layout, shut)
    refuse_no_room(layout, rooms)
