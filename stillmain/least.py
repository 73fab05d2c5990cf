"""The least lot that parts a stretch from all sources, and the ways that show that none is cheaper.

As much as can be is sent from the stretch to the sources, along each line that can be
shut no more than its cost. Lines lead both ways, so these are ways from the sources, too;
and the rooms to which more could still be sent from the stretch are the smallest side.
"""

from stillmain.doors import need
from stillmain.errors import NoPart
from stillmain.kinds import are_names, is_stretch
from stillmain.lacks import refuse_no_room, refuse_no_switch, switches_in
from stillmain.layout import Layout
from stillmain.leads import first_way, leads_of, reached
from stillmain.reach import border_of, way_to


def least_lot(layout, barred, rooms):
    """Tell the least lot that parts the stretch, and its side, both sorted."""
    _check(layout, barred, rooms)
    leads = leads_of(layout, [])
    spare = _spare_beside_the_most(layout, leads, _limits(layout, barred), rooms)
    side = reached(_leads_along(leads, spare), rooms)
    return border_of(layout, side), side


def ways_to(layout, barred, rooms):
    """Tell ways to the stretch with their amounts, which come to the cost of the least lot."""
    _check(layout, barred, rooms)
    leads = leads_of(layout, [])
    limits = _limits(layout, barred)
    spare = _spare_beside_the_most(layout, leads, limits, rooms)
    sent = {(line, room): limits[line] - spare[(line, room)] for line, room in spare}
    return _taken_apart(leads, sent, rooms, layout.sources())


def cost_of(layout, switches):
    """Tell what the costs of these lines come to."""
    need(0, isinstance(layout, Layout))
    need(1, are_names(switches))
    refuse_no_switch(layout, switches)
    return sum([layout.line(line)[2] for line in switches])


def _check(layout, barred, rooms):
    need(0, isinstance(layout, Layout))
    need(1, are_names(barred))
    need(2, is_stretch(rooms))
    refuse_no_switch(layout, barred)
    refuse_no_room(layout, rooms)
    way = way_to(layout, _to_be_shut(layout, barred), rooms)
    if way is not None:
        raise NoPart(way)


def _to_be_shut(layout, barred):
    return [line for line in switches_in(layout) if line not in barred]


def _limits(layout, barred):
    """Tell of each line how much may be sent along it."""
    lot = _to_be_shut(layout, barred)
    # No more than these lines' costs is ever sent in all, so one more is no limit.
    no_limit = cost_of(layout, lot) + 1
    limits = {line: no_limit for line in layout.lines()}
    for line in lot:
        limits[line] = layout.line(line)[2]
    return limits


def _spare_beside_the_most(layout, leads, limits, rooms):
    """Send the most; tell of each line and end how much more could be sent from there."""
    spare = {(line, room): limits[line] for room in leads for line, _ in leads[room]}
    way = first_way(_leads_along(leads, spare), rooms, layout.sources())
    while way is not None:
        amount = min([spare[(line, one)] for one, line, _ in _steps(way)])
        for one, line, other in _steps(way):
            spare[(line, one)] -= amount
            spare[(line, other)] += amount
        way = first_way(_leads_along(leads, spare), rooms, layout.sources())
    return spare


def _taken_apart(leads, sent, rooms, sources):
    """Tell the ways, from the sources, of which what was sent is made up."""
    ways = []
    way = first_way(_leads_along(leads, sent), rooms, sources)
    while way is not None:
        amount = min([sent[(line, one)] for one, line, _ in _steps(way)])
        for one, line, _ in _steps(way):
            sent[(line, one)] -= amount
        ways.append((amount, way[::-1]))
        way = first_way(_leads_along(leads, sent), rooms, sources)
    return ways


def _leads_along(leads, amounts):
    """Tell the leads that have an amount left, from the end at which one goes in."""
    return {room: [(line, other) for line, other in leads[room] if amounts[(line, room)] > 0]
            for room in leads}


def _steps(way):
    """Tell the lines of a way, each between the room ahead of it and the one behind it."""
    return [(way[at - 1], way[at], way[at + 1]) for at in range(1, len(way), 2)]
