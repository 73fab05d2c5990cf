"""Boards to ask, and what they tell."""

from keeping import kept
from samples import many_names
from stillmain.board import Board


def small_board():
    """Four devices and three jobs, whose tags hang on none."""
    board = Board()
    for device, position in (("s", "open"), ("b", "open"), ("u", "shut"), ("a", "shut")):
        board.add(device, position)
    board.crew("jo", ["bo", "ann"])
    board.crew("al", ["cy"])
    board.crew("zed", ["ann", "dee"])
    return board


def hung_board():
    """The small board: jo on a, s and u, al on s, zed on s; u and s stand away from home, u is stuck."""
    board = small_board()
    board.hold("s", "shut", "zed")
    board.hold("s", "shut", "jo")
    board.hold("s", "shut", "al")
    board.hold("u", "open", "jo")
    board.hold("a", "shut", "jo")
    board.stick("u")
    return board


def full_board():
    """As many devices and jobs as there may be; job k's tags hang on device k."""
    board = Board()
    devices = many_names(52)
    for at, device in enumerate(devices):
        board.add(device, ("open", "shut")[at % 2])
    for at, job in enumerate(many_names(8)):
        board.crew(job, ["h" + name for name in devices[at:at + 6]])
        board.hold(devices[at], ("open", "shut", "shut")[at % 3], job)
    board.stick(devices[3])
    return board


def all_told_of(board):
    """All that a board tells."""
    devices, jobs = board.devices(), board.jobs()
    return kept({
        "devices": devices,
        "jobs": jobs,
        "stands": [board.stands(device) for device in devices],
        "home": [board.home(device) for device in devices],
        "is_stuck": [board.is_stuck(device) for device in devices],
        "jobs_on": [board.jobs_on(device) for device in devices],
        "tags": [board.tags(device) for device in devices],
        "crew_of": [board.crew_of(job) for job in jobs],
        "held_by": [board.held_by(job) for job in jobs],
        "holders": [[board.holders(device, job) for job in jobs + [None]] for device in devices],
    })
