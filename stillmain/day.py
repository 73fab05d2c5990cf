"""A day ahead: rows of deeds, walked at a copy of a works."""

from stillmain.deeds import answer_to, copied_deed, is_deed
from stillmain.doors import need
from stillmain.kinds import is_name
from stillmain.works import Works

MOST_ROWS = 40
# Of each short word the deed that comes ahead of the steps.
FIRST = {"still": "begin", "trial": "try_out", "again": "go_on", "away": "put_by", "gone": "end"}
GIVEN_AT_LAST = ("still", "again")


def is_row(thing):
    """Tell whether it is a row of a day."""
    return is_deed(thing) or _is_short(thing)


def walk_day(works, rows):
    """Tell the deeds of the rows that are done at a copy, each with its row's place, and the first clash."""
    need(0, isinstance(works, Works))
    need(1, _is_day(rows))
    walked = works.copied()
    done = []
    for at, row in enumerate(rows):
        deed = _first_deed(row)
        while deed is not None:
            answer = answer_to(walked, deed)
            if answer[0] == "refused":
                return done, (at, deed, answer[1], answer[2])
            done.append((at, deed))
            deed = _deed_behind(walked, row, deed)
    return done, None


def _is_short(thing):
    if not isinstance(thing, tuple) or len(thing) != 2:
        return False
    word, job = thing
    return isinstance(word, str) and word in FIRST and is_name(job)


def _is_day(thing):
    return isinstance(thing, list) and len(thing) <= MOST_ROWS and all([is_row(row) for row in thing])


def _first_deed(row):
    if _is_short(row):
        word, job = row
        return FIRST[word], job
    return copied_deed(row)


def _deed_behind(works, row, deed):
    """Tell the deed of the row that comes behind this one, as the works stands now; None where none does."""
    if not _is_short(row) or deed[0] == "give":
        return None
    word, job = row
    # A job that is gone has no steps.
    if job in works.jobs() and works.steps_left(job):
        return "step", job
    if word in GIVEN_AT_LAST:
        return "give", job
    return None
