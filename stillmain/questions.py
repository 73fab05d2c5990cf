"""The desk's questions of a works, as lists of words."""

from stillmain.kinds import is_name
from stillmain.reach import live_rooms, way_to
from stillmain.words import names_or, step_in_words

OF_ALL = ("live", "wet", "shut", "opened", "jobs")
OF_ONE = ("phase", "crew", "lot", "steps", "tags", "stands", "way")


def is_question(words):
    """Tell whether these words are a question."""
    if len(words) == 1:
        return words[0] in OF_ALL
    return len(words) == 2 and words[0] in OF_ONE and is_name(words[1])


def told_of(works, question):
    """Tell in words what is asked of the works."""
    if len(question) == 1:
        return names_or(_names_of(works, question[0]), "none")
    word, name = question
    if word in ("tags", "stands"):
        return _told_of_device(works.board(), word, name)
    if word == "way":
        return names_or(way_to(works.layout(), works.shut(), [name]), "none")
    return _told_of_job(works, word, name)


def _names_of(works, word):
    match word:
        case "live":
            return live_rooms(works.layout(), works.shut())
        case "wet":
            return works.wet()
        case "shut":
            return works.shut()
        case "opened":
            return works.opened()
        case _:
            return works.jobs()


def _told_of_device(board, word, device):
    if word == "tags":
        return names_or([f"{job}/{hand}" for job, hand in board.tags(device)], "none")
    if board.is_stuck(device):
        return f"{board.stands(device)} stuck"
    return board.stands(device)


def _told_of_job(works, word, job):
    match word:
        case "phase":
            return works.phase(job)
        case "crew":
            return " ".join(works.crew_at(job))
        case "lot":
            return " ; ".join([names_or(names, "-") for names in works.lot(job)])
        case _:
            return _steps_in_words(works.steps_left(job))


def _steps_in_words(steps):
    if not steps:
        return "none"
    return ", ".join([step_in_words(step) for step in steps])
