"""The layout: rooms, lines that join them, drains in them, and sources."""

from stillmain.doors import need
from stillmain.errors import InUse, Lacks, There, TooMany
from stillmain.kinds import is_cost, is_name

MOST_ROOMS = 24
MOST_LINES = 40
MOST_DRAINS = 12


class Layout:
    """Rooms, lines, drains and sources, by their names."""

    def __init__(self):
        # Rooms and sources are dicts of True: a set may not be kept in an object.
        self._rooms = {}
        self._lines = {}
        self._drains = {}
        self._sources = {}

    def add_room(self, room):
        """Add a room."""
        need(0, is_name(room))
        if room in self._rooms:
            raise There(room)
        if len(self._rooms) >= MOST_ROOMS:
            raise TooMany(MOST_ROOMS)
        self._rooms[room] = True

    def add_line(self, line, one, other, cost):
        """Add a line from one room to another one; it has a switch unless its cost is 0."""
        need(0, is_name(line))
        need(1, is_name(one))
        need(2, is_name(other) and other != one)
        need(3, is_cost(cost))
        self._refuse_taken(line)
        self._refuse_no_room(one)
        self._refuse_no_room(other)
        if len(self._lines) >= MOST_LINES:
            raise TooMany(MOST_LINES)
        self._lines[line] = (one, other, cost)

    def add_drain(self, drain, room):
        """Add a drain in a room."""
        need(0, is_name(drain))
        need(1, is_name(room))
        self._refuse_taken(drain)
        self._refuse_no_room(room)
        if len(self._drains) >= MOST_DRAINS:
            raise TooMany(MOST_DRAINS)
        self._drains[drain] = room

    def add_source(self, room):
        """Make a room a source."""
        need(0, is_name(room))
        self._refuse_no_room(room)
        if room in self._sources:
            raise There(room)
        self._sources[room] = True

    def take_room(self, room):
        """Take a room away on which nothing else stands."""
        need(0, is_name(room))
        self._refuse_no_room(room)
        if self._is_in_use(room):
            raise InUse(room)
        del self._rooms[room]

    def take_line(self, line):
        """Take a line away."""
        need(0, is_name(line))
        self._refuse_no_line(line)
        del self._lines[line]

    def take_drain(self, drain):
        """Take a drain away."""
        need(0, is_name(drain))
        self._refuse_no_drain(drain)
        del self._drains[drain]

    def take_source(self, room):
        """Make a source a room like others."""
        need(0, is_name(room))
        if room not in self._sources:
            raise Lacks(room)
        del self._sources[room]

    def rooms(self):
        """Tell the rooms, sorted."""
        return sorted(self._rooms)

    def lines(self):
        """Tell the lines, sorted."""
        return sorted(self._lines)

    def drains(self):
        """Tell the drains, sorted."""
        return sorted(self._drains)

    def sources(self):
        """Tell the rooms that are sources, sorted."""
        return sorted(self._sources)

    def line(self, line):
        """Tell a line's two ends, as they were handed in, and its cost."""
        need(0, is_name(line))
        self._refuse_no_line(line)
        return self._lines[line]

    def drain(self, drain):
        """Tell the room that a drain is in."""
        need(0, is_name(drain))
        self._refuse_no_drain(drain)
        return self._drains[drain]

    def lines_at(self, room):
        """Tell the lines that end in a room, sorted."""
        need(0, is_name(room))
        self._refuse_no_room(room)
        return sorted(self._ending_at(room))

    def copied(self):
        """Tell a layout that is alike and goes on by itself."""
        twin = Layout()
        twin._rooms = dict(self._rooms)
        twin._lines = dict(self._lines)
        twin._drains = dict(self._drains)
        twin._sources = dict(self._sources)
        return twin

    def _refuse_taken(self, name):
        # Lines and drains have names together; rooms have names of their own.
        if name in self._lines or name in self._drains:
            raise There(name)

    def _refuse_no_room(self, room):
        if room not in self._rooms:
            raise Lacks(room)

    def _refuse_no_line(self, line):
        if line not in self._lines:
            raise Lacks(line)

    def _refuse_no_drain(self, drain):
        if drain not in self._drains:
            raise Lacks(drain)

    def _ending_at(self, room):
        return [line for line, (one, other, _) in self._lines.items() if room in (one, other)]

    def _is_in_use(self, room):
        if room in self._sources or room in list(self._drains.values()):
            return True
        return len(self._ending_at(room)) > 0
