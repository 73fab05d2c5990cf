"""Layouts made by chance, and what is due of one, found by trying all there is."""

import itertools

from samples import many_names
from stillmain.layout import Layout


def made_layout(rooms, lines, drains=(), sources=()):
    """A layout of rooms, lines (line, one, other, cost), drains (drain, room) and sources."""
    layout = Layout()
    for room in rooms:
        layout.add_room(room)
    for line in lines:
        layout.add_line(*line)
    for drain in drains:
        layout.add_drain(*drain)
    for room in sources:
        layout.add_source(room)
    return layout


def chance_layout(chance, rooms=5, lines=7, drains=0, sources=1, costs=(0, 1, 2, 3)):
    """A layout of so many things, whose names are in no order; rooms and lines share names."""
    names = chance.sample(many_names(60), lines + drains)
    places = chance.sample(list(dict.fromkeys(names + many_names(24))), rooms)
    ends = [chance.sample(places, 2) for _ in range(lines)] if rooms > 1 else []
    return made_layout(
        places,
        [(line, one, other, chance.choice(costs)) for line, (one, other) in zip(names, ends)],
        [(drain, chance.choice(places)) for drain in names[lines:]] if rooms else [],
        chance.sample(places, min(sources, len(places))))


def some_of(chance, things):
    """Some of the things, none or all of them too, in any order."""
    return chance.sample(things, chance.randint(0, len(things)))


def with_switch(layout):
    return [line for line in layout.lines() if layout.line(line)[2] != 0]


def ends_of(layout):
    return {line: layout.line(line)[:2] for line in layout.lines()}


def joined_with(layout, shut, rooms):
    """All rooms joined with one of these, by going over the lines till nothing more comes."""
    leading = [set(ends) for line, ends in ends_of(layout).items() if line not in shut]
    found = set(rooms)
    while True:
        more = {room for ends in leading if ends & found for room in ends} - found
        if not more:
            return sorted(found)
        found |= more


def simple_ways(layout, shut, rooms):
    """All ways with no room twice from any source to one of these rooms."""
    ends = ends_of(layout)
    ways, ahead = [], [[room] for room in layout.sources()]
    while ahead:
        way = ahead.pop()
        if way[-1] in rooms:
            ways.append(way)
        for line, (one, other) in ends.items():
            if line not in shut and way[-1] in (one, other):
                beyond = other if way[-1] == one else one
                if beyond not in way[::2]:
                    ahead.append(way + [line, beyond])
    return ways


def first_shortest_way(layout, shut, rooms):
    ways = simple_ways(layout, shut, rooms)
    return min(ways, key=lambda way: (len(way), way)) if ways else None


def least_by_trying(layout, barred, rooms):
    """The least lot with the smallest side and the side, of all lots that part; None of none."""
    free = [line for line in with_switch(layout) if line not in barred]
    sources = set(layout.sources())
    parting = []
    for many in range(len(free) + 1):
        for lot in itertools.combinations(free, many):
            side = joined_with(layout, lot, rooms)
            if not sources & set(side):
                cost = sum(layout.line(line)[2] for line in lot)
                parting.append((cost, len(side), list(lot), side))
    if not parting:
        return None
    parting.sort()
    # There is just one such.
    assert len(parting) == 1 or parting[0][:2] != parting[1][:2]
    return tuple(parting[0][2:])


def is_way(layout, way, shut=()):
    """Whether it is a way, each of its lines leading from the room ahead to the one behind."""
    ends = ends_of(layout)
    rooms, lines = way[::2], way[1::2]
    return (isinstance(way, list) and len(way) == 2 * len(lines) + 1
            and all(room in layout.rooms() for room in rooms)
            and all(line in ends and line not in shut and sorted(ends[line]) == sorted(beside)
                    for line, beside in zip(lines, zip(rooms, rooms[1:]))))
