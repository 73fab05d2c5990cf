"""Works to ask, and what they tell."""

from boards import all_told_of
from keeping import kept
from layouts import all_told
from samples import many_names
from stillmain.works import Works


def called(works, row):
    """Call a works' method by a row of its word and what is handed in; what follows ask is a list."""
    word, *handed = row.split(" ")
    handed = [int(one) if one.isdigit() else one for one in handed]
    if word == "ask":
        handed = handed[:2] + [handed[2:]]
    return getattr(works, word)(*handed)


def done(works, *rows):
    """Do deeds that are let by, and tell what the last one told."""
    told = None
    for row in rows:
        told = called(works, row)
    return told


def works_of(*rows):
    works = Works()
    done(works, *rows)
    return works


SMALL = (
    "add_room p", "add_room q", "add_room r", "add_room s", "add_room t", "add_source p",
    "add_line a p q 3", "add_line b q p 4", "add_line c q r 2", "add_line d r s 1", "add_line e s t 0",
    "add_line f q s 2", "add_drain u r", "add_drain v s", "add_drain w t", "add_drain x q")


def small_works():
    """Five rooms in a row from p, which is the source; the least lot of r is c and d, of t it is d and f."""
    return works_of(*SMALL)


def steps_done(works, job):
    """Do all steps that are left of a job, and tell them."""
    told = []
    while job in works.jobs() and works.steps_left(job):
        told.append(works.step(job))
        assert len(told) <= 52, "there are no more devices"
    return told


def given_works():
    """The small works, with jo's permit given in r, al's job begun in t, and bo's job asked for in q."""
    works = works_of(*SMALL, "ask jo ann r", "begin jo", "ask al eve t", "begin al", "ask bo cy q p")
    steps_done(works, "jo")
    done(works, "give jo", "sign_on jo dee")
    return works


def works_in(phase):
    """A small works with a job, jo, of the stretch r in this phase."""
    works = works_of(*SMALL, "ask jo ann r")
    if phase != "by":
        works.begin("jo")
    if phase in ("given", "trial", "away"):
        steps_done(works, "jo")
        works.give("jo")
    if phase == "trial":
        works.try_out("jo")
    if phase == "away":
        works.put_by("jo")
    return works


def full_works():
    """As many rooms, lines, drains and jobs as there may be; each room but the first has a job's hand near."""
    works = Works()
    rooms = many_names(24)
    for room in rooms:
        works.add_room(room)
    for at in range(40):
        works.add_line("l" + rooms[at % 20] + "ab"[at // 20], rooms[at % 24], rooms[(at + 1) % 24], 1 + at)
    for at in range(12):
        works.add_drain("d" + rooms[at], rooms[at])
    works.add_source(rooms[5])
    for at in range(8):
        works.ask("j" + rooms[at], "h" + rooms[at // 2], [rooms[(3 * at + 6) % 24]])
    return works


def all_told_of_works(works):
    """All that a works tells."""
    jobs = works.jobs()
    return kept({
        "layout": all_told(works.layout()),
        "board": all_told_of(works.board()),
        "shut": works.shut(),
        "opened": works.opened(),
        "wet": works.wet(),
        "jobs": jobs,
        "phase": [works.phase(job) for job in jobs],
        "stretch": [works.stretch(job) for job in jobs],
        "crew_at": [works.crew_at(job) for job in jobs],
        "steps_left": [works.steps_left(job) for job in jobs],
        "lot": [works.lot(job) for job in jobs],
    })
