"""Jobs to ask, in each phase, and what they tell."""

from boards import all_told_of
from keeping import kept
from stillmain.board import Board
from stillmain.job import Job

PHASES = ("by", "still", "given", "trial", "away", "ended")


def job_board():
    """Switches a, b, c and d, of which c stands shut, and drains u and v; one other job, al."""
    board = Board()
    for device, position in (("b", "open"), ("a", "open"), ("d", "open"), ("c", "shut"),
                             ("v", "shut"), ("u", "shut")):
        board.add(device, position)
    board.crew("al", ["eve", "bo"])
    return board


def new_job():
    """A job, jo, at the board of jobs, and that board."""
    board = job_board()
    return board, Job(board, "jo", "ann", ["r", "q"])


def steps_done(job):
    """Do all steps that are left, and tell them."""
    done = []
    while job.steps():
        done.append(job.step())
        assert len(done) <= 52, "there are no more devices"
    return done


def job_in(phase):
    """Jo in this phase, with switches b, c, a and drains v, u (where there are any), and its board."""
    board, job = new_job()
    if phase == "by":
        return board, job
    if phase == "ended":
        job.end()
        return board, job
    job.begin(["b", "c", "a"], ["v", "u"])
    if phase != "still":
        steps_done(job)
        job.give()
    if phase == "trial":
        job.try_out()
    if phase == "away":
        job.put_by()
    return board, job


def told_of(board, job):
    """All that a job and its board tell."""
    return kept({
        "board": all_told_of(board),
        "called": job.called(),
        "phase": job.phase(),
        "stretch": job.stretch(),
        "switches": job.switches(),
        "drains": job.drains(),
        "crew_now": job.crew_now(),
        "steps": job.steps(),
    })
