"""Deeds of all words, what they are made of, and their texts."""

from samples import many_names, not_costs, not_names, not_positions, not_stretches

# Of each word what stands behind it.
WANTED = {
    "add_room": ("name",), "take_room": ("name",), "add_line": ("name", "name", "name", "cost"),
    "take_line": ("name",), "add_drain": ("name", "name"), "take_drain": ("name",),
    "add_source": ("name",), "take_source": ("name",), "turn": ("name", "position"), "stick": ("name",),
    "mend": ("name",), "ask": ("name", "name", "stretch"), "begin": ("name",), "step": ("name",),
    "give": ("name",), "end": ("name",), "put_by": ("name",), "try_out": ("name",), "go_on": ("name",),
    "sign_on": ("name", "name"), "sign_off": ("name", "name"), "hand_over": ("name", "name", "name"),
    "relieve": ("name", "name"),
}
NOT_FITTING = {"name": not_names, "cost": not_costs, "position": not_positions, "stretch": not_stretches}
NAMES = ("a", "open", "zz", "abcdefgh", "ask", "p", "step", "none")
FITTING = {"name": NAMES, "cost": (0, 7, 10, 99), "position": ("open", "shut"),
           "stretch": (["p"], ["q", "p"], many_names(24), ["z", "a", "open"])}

DEEDS_AND_TEXTS = (
    (("add_room", "p"), "add_room p"), (("take_room", "abcdefgh"), "take_room abcdefgh"),
    (("add_line", "a", "p", "q", 12), "add_line a p q 12"), (("add_line", "a", "q", "p", 0), "add_line a q p 0"),
    (("add_line", "p", "p", "q", 99), "add_line p p q 99"), (("add_line", "a", "a", "b", 9), "add_line a a b 9"),
    (("add_line", "a", "p", "q", 10), "add_line a p q 10"),
    (("take_line", "a"), "take_line a"), (("add_drain", "u", "u"), "add_drain u u"),
    (("take_drain", "u"), "take_drain u"), (("add_source", "p"), "add_source p"),
    (("take_source", "p"), "take_source p"), (("turn", "a", "shut"), "turn a shut"),
    (("turn", "open", "open"), "turn open open"), (("stick", "a"), "stick a"), (("mend", "a"), "mend a"),
    (("ask", "jo", "ann", ["p", "q"]), "ask jo ann p q"), (("ask", "jo", "jo", ["jo"]), "ask jo jo jo"),
    (("ask", "jo", "ann", ["q", "p", "a"]), "ask jo ann q p a"),
    (("ask", "jo", "ann", many_names(24)), "ask jo ann " + " ".join(many_names(24))),
    (("begin", "jo"), "begin jo"), (("step", "jo"), "step jo"), (("give", "jo"), "give jo"),
    (("end", "jo"), "end jo"), (("put_by", "jo"), "put_by jo"), (("try_out", "jo"), "try_out jo"),
    (("go_on", "jo"), "go_on jo"), (("sign_on", "jo", "ann"), "sign_on jo ann"),
    (("sign_off", "jo", "ann"), "sign_off jo ann"), (("hand_over", "jo", "ann", "bo"), "hand_over jo ann bo"),
    (("hand_over", "jo", "ann", "ann"), "hand_over jo ann ann"), (("relieve", "ann", "bo"), "relieve ann bo"),
    (("relieve", "ann", "ann"), "relieve ann ann"),
)


def fitting_deed(word):
    """A deed of this word, made anew."""
    names = iter(NAMES)
    rest = [next(names) if want == "name" else FITTING[want][1] for want in WANTED[word]]
    return (word,) + tuple(list(one) if type(one) is list else one for one in rest)


def spoilt_deeds():
    """Tuples that are no deeds, each one thing away from one."""
    spoilt = []
    for word, wants in WANTED.items():
        deed = fitting_deed(word)
        for at, want in enumerate(wants):
            spoilt += [deed[:at + 1] + (thing,) + deed[at + 2:] for thing in NOT_FITTING[want]()]
        spoilt += [deed[:-1], deed + ("a",), deed + (0,), deed + (None,), deed[:1], deed[1:], deed[::-1]]
        spoilt += [(word.upper(),) + deed[1:], (" " + word,) + deed[1:], (word + "\n",) + deed[1:],
                   (word[:-1],) + deed[1:], (None,) + deed[1:], ([word],) + deed[1:], ((word,),) + deed[1:],
                   ({word: True},) + deed[1:], (deed,), (word, deed[1:]), (word, list(deed[1:]))]
    return spoilt


def not_deeds():
    """Things of all kinds that are no deeds."""
    lists = [list(fitting_deed(word)) for word in WANTED]
    others = [("",), ("a",), ("open",), ("layout",), ("copied",), ("wet",), ("phase", "jo"), ("lot", "jo"),
              ("crew_at", "jo"), ("still", "jo"), ("gone", "jo"), ("away", "jo"), ("again", "jo"),
              ("trial", "jo"), ("answers",), ("shut",), ("add", "p"), ("room", "p"), ("take", "a"),
              ("add_line", "a", "p", "p", 3), ("add_line", "a", "a", "a", 0), ("ask", "jo", "ann", "p"),
              ("ask", "jo", "ann", "p", "q"), ("ask", "jo", "ann"), ("ask", "jo", "ann", ("p", "q")),
              ("ask", "jo", "ann", []), ("add_line", "a", "p", "q", "12"), ("add_line", "a", "p", "q", True),
              ("add_line", "a", "p", "q", 100), ("add_line", "a", "p", "q", -1), "add_room p", "step jo",
              ["add_room", "p"], {"add_room": "p"}]
    return not_names() + lists + others + ["a", "step"] + spoilt_deeds()
