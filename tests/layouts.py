"""Layouts to ask, and what they tell."""

from keeping import kept
from samples import many_names
from stillmain.layout import Layout


def small_layout():
    """Three rooms, four lines, three drains, one source."""
    layout = Layout()
    for room in ("q", "p", "r"):
        layout.add_room(room)
    layout.add_line("b", "q", "p", 7)
    layout.add_line("a", "p", "q", 0)
    layout.add_line("d", "q", "p", 99)
    layout.add_line("c", "q", "r", 1)
    layout.add_drain("v", "r")
    layout.add_drain("u", "r")
    layout.add_drain("w", "q")
    layout.add_source("p")
    return layout


def full_layout():
    """As many rooms, lines and drains as there may be; the names of room k begin alike."""
    layout = Layout()
    rooms = many_names(24)
    for room in rooms:
        layout.add_room(room)
    for at in range(40):
        layout.add_line("l" + rooms[at % 20] + "ab"[at // 20], rooms[at % 24], rooms[(at + 1) % 24], at)
    for at in range(12):
        layout.add_drain("d" + rooms[at], rooms[at])
    layout.add_source(rooms[5])
    return layout


def all_told(layout):
    """All that a layout tells."""
    return kept({
        "rooms": layout.rooms(),
        "lines": layout.lines(),
        "drains": layout.drains(),
        "sources": layout.sources(),
        "line": [layout.line(line) for line in layout.lines()],
        "drain": [layout.drain(drain) for drain in layout.drains()],
        "lines_at": [layout.lines_at(room) for room in layout.rooms()],
    })
