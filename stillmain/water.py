"""Where water stands when all has settled, and what spills."""

from stillmain.doors import need
from stillmain.kinds import are_names
from stillmain.lacks import refuse_no_drain, refuse_no_room, refuse_no_switch
from stillmain.layout import Layout
from stillmain.reach import live_rooms, parts_of


def settled(layout, shut, opened, wet):
    """Tell the rooms that are wet when this has settled, sorted."""
    need(0, isinstance(layout, Layout))
    need(1, are_names(shut))
    need(2, are_names(opened))
    need(3, are_names(wet))
    refuse_no_switch(layout, shut)
    refuse_no_drain(layout, opened)
    refuse_no_room(layout, wet)
    drained = [layout.drain(drain) for drain in opened]
    wet_parts = [part for part in parts_of(layout, shut)
                 if _is_wet(part, layout.sources(), drained, wet)]
    return sorted([room for part in wet_parts for room in part])


def spilling(layout, shut, opened):
    """Tell the open drains that are in live rooms, sorted."""
    need(0, isinstance(layout, Layout))
    need(1, are_names(shut))
    need(2, are_names(opened))
    refuse_no_switch(layout, shut)
    refuse_no_drain(layout, opened)
    live = live_rooms(layout, shut)
    return sorted([drain for drain in opened if layout.drain(drain) in live])


def _is_wet(part, sources, drained, wet):
    # A source pushes more than drains take, and a drain takes whatever stood there.
    if _meet(part, sources):
        return True
    if _meet(part, drained):
        return False
    return _meet(part, wet)


def _meet(part, rooms):
    return any([room in rooms for room in part])
