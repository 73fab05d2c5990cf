"""Going from room to room.

Leads are a dict: of each room the lines by which one goes on from it, each in a
tuple with the room to which it goes.
"""


def leads_of(layout, shut):
    """Tell the leads of a layout in which these lines are shut, those of a room sorted."""
    leads = {room: [] for room in layout.rooms()}
    for line in layout.lines():
        if line not in shut:
            one, other, _ = layout.line(line)
            leads[one].append((line, other))
            leads[other].append((line, one))
    return leads


def reached(leads, rooms):
    """Tell all rooms to which one goes from any of these rooms, sorted; these are among them."""
    found = {room: True for room in rooms}
    ahead = list(found)
    while ahead:
        room = ahead.pop()
        for _, other in leads[room]:
            if other not in found:
                found[other] = True
                ahead.append(other)
    return sorted(found)


def first_way(leads, starts, ends):
    """Tell the shortest way from a start to an end, of several the one that comes first by its names."""
    # Ways are found by their lengths, and those of one length in the order of their names:
    # so the first one that comes to a room is the one to keep, and so is the first at an end.
    ways = [[room] for room in sorted(starts)]
    found = {room: True for room in starts}
    at = 0
    while at < len(ways):
        way = ways[at]
        at += 1
        if way[-1] in ends:
            return way
        for line, other in leads[way[-1]]:
            if other not in found:
                found[other] = True
                ways.append(way + [line, other])
    return None
