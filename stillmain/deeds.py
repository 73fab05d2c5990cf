"""Deeds: what is done at a works, as tuples and as texts."""

from stillmain.doors import need
from stillmain.errors import Held, InUse, Lacks, NoPart, NotDry, NotNow, NoText, Stuck, There, TooMany
from stillmain.figures import number_in
from stillmain.kinds import is_cost, is_name, is_position, is_stretch
from stillmain.works import Works

# Of each word the kinds of what is handed in behind it.
WANTED = {
    "add_room": ("name",),
    "take_room": ("name",),
    "add_line": ("name", "name", "name", "cost"),
    "take_line": ("name",),
    "add_drain": ("name", "name"),
    "take_drain": ("name",),
    "add_source": ("name",),
    "take_source": ("name",),
    "turn": ("name", "position"),
    "stick": ("name",),
    "mend": ("name",),
    "ask": ("name", "name", "stretch"),
    "begin": ("name",),
    "step": ("name",),
    "give": ("name",),
    "end": ("name",),
    "put_by": ("name",),
    "try_out": ("name",),
    "go_on": ("name",),
    "sign_on": ("name", "name"),
    "sign_off": ("name", "name"),
    "hand_over": ("name", "name", "name"),
    "relieve": ("name", "name"),
}
OF_LAYOUT = ("add_room", "take_room", "add_line", "take_line",
             "add_drain", "take_drain", "add_source", "take_source")
OF_CREWS = ("ask", "sign_on", "sign_off", "hand_over", "relieve")


def is_deed(thing):
    """Tell whether it is a deed."""
    if not isinstance(thing, tuple) or len(thing) == 0:
        return False
    word, *things = thing
    # What is no text may not be fit to be looked up.
    if not isinstance(word, str) or word not in WANTED or len(things) != len(WANTED[word]):
        return False
    if not all([_fits(kind, worth) for kind, worth in zip(WANTED[word], things)]):
        return False
    return word != "add_line" or things[1] != things[2]


def do_deed(works, deed):
    """Do a deed at a works, and tell what the method tells."""
    word, *things = deed
    if word in OF_LAYOUT:
        return _do_to_layout(works, word, things)
    if word in OF_CREWS:
        return _do_to_crews(works, word, things)
    return _do_to_devices(works, word, things)


def answer_to(works, deed):
    """Do a deed at a works, and tell what it tells, or how it is refused."""
    need(0, isinstance(works, Works))
    need(1, is_deed(deed))
    try:
        return "done", do_deed(works, deed)
    except There as there:
        return "refused", "There", [there.name]
    except Lacks as lacking:
        return "refused", "Lacks", [lacking.name]
    except TooMany as full:
        return "refused", "TooMany", [full.most]
    except InUse as used:
        return "refused", "InUse", [used.name]
    except Held as held:
        return "refused", "Held", held.hands
    except Stuck as stuck:
        return "refused", "Stuck", [stuck.name]
    except NoPart as unparted:
        return "refused", "NoPart", unparted.way
    except NotNow as early:
        return "refused", "NotNow", [early.job]
    except NotDry as wet:
        return "refused", "NotDry", wet.damp


def copied_deed(deed):
    """Tell a deed that is alike, with a list of its own where it has one."""
    return tuple([list(worth) if isinstance(worth, list) else worth for worth in deed])


def show_deed(deed):
    """Tell the text of a deed."""
    word, *things = deed
    if word == "ask":
        job, hand, rooms = things
        return " ".join([word, job, hand] + rooms)
    return " ".join([word] + [str(worth) for worth in things])


def read_deed(text):
    """Tell the deed that a text writes."""
    if not isinstance(text, str):
        raise NoText()
    deed = _deed_of(text.split(" "))
    if not is_deed(deed):
        raise NoText()
    return deed


def _fits(kind, thing):
    if kind == "name":
        return is_name(thing)
    if kind == "cost":
        return is_cost(thing)
    if kind == "position":
        return is_position(thing)
    return is_stretch(thing)


def _do_to_layout(works, word, things):
    match word:
        case "add_room":
            return works.add_room(*things)
        case "take_room":
            return works.take_room(*things)
        case "add_line":
            return works.add_line(*things)
        case "take_line":
            return works.take_line(*things)
        case "add_drain":
            return works.add_drain(*things)
        case "take_drain":
            return works.take_drain(*things)
        case "add_source":
            return works.add_source(*things)
        case _:
            return works.take_source(*things)


def _do_to_crews(works, word, things):
    match word:
        case "ask":
            return works.ask(*things)
        case "sign_on":
            return works.sign_on(*things)
        case "sign_off":
            return works.sign_off(*things)
        case "hand_over":
            return works.hand_over(*things)
        case _:
            return works.relieve(*things)


def _do_to_devices(works, word, things):
    match word:
        case "turn":
            return works.turn(*things)
        case "stick":
            return works.stick(*things)
        case "mend":
            return works.mend(*things)
        case "begin":
            return works.begin(*things)
        case "step":
            return works.step(*things)
        case "give":
            return works.give(*things)
        case "end":
            return works.end(*things)
        case "put_by":
            return works.put_by(*things)
        case "try_out":
            return works.try_out(*things)
        case _:
            return works.go_on(*things)


def _deed_of(words):
    """Tell what these words come to, be it a deed or not."""
    if words[0] == "ask":
        return tuple(words[:3] + [words[3:]])
    if words[0] == "add_line":
        return tuple(words[:4] + [number_in(word) for word in words[4:]])
    return tuple(words)
