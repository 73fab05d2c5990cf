"""Things of all kinds to hand in, made anew at each call."""

from stillmain.errors import Held, Lacks, NoText


class Plain:
    """A class of the asker's own."""


def strange_things():
    """Things that are of none of the seven kinds."""
    ring = []
    ring.append(ring)
    return [
        None, True, False,
        (), ("a",), ("a", "b"), ("open",), (0,), ((),), ([],),
        {}, {"a": "b"}, {"open": "shut"}, {0: 1}, {"a": ["a"]}, {"a": {}},
        [None], [True], [0], [""], ["A"], [["a"]], [[]], [{}], [("a",)], [["a"], ["a"]],
        ["a", 0], ["a", ["b"]], ["a", "a"], ["a", None, "b"], [Held(["a"])], ring,
        set(), {"a"}, frozenset(["a"]), b"", b"a", b"open", range(3), iter(["a"]),
        Plain(), Plain, len, Held(["a"]), Lacks("a"), NoText(), ValueError("a"),
    ]


def odd_texts():
    """Texts that are no names and no positions."""
    signs = [chr(at) for at in range(ord(" "), ord("~") + 1)] + ["\n"]
    others = [sign for sign in signs if not "a" <= sign <= "z"]
    texts = [""] + others
    for sign in others:
        texts += [sign + "ab", "a" + sign + "b", "ab" + sign, "abcdefg" + sign]
    texts += ["Open", "OPEN", "Shut", "SHUT", "open ", " open", "open\n", "\nshut", "shut\n"]
    texts += ["abcdefghi", "openshuts", "a" * 60, "open shut", "open,shut", "0", "12", "True", "None"]
    return texts


def whole_numbers():
    """Whole numbers, up to such as have forty figures."""
    return [0, 1, 2, 98, 99, 100, 10 ** 9 - 1, 10 ** 9, 10 ** 9 + 1, 10 ** 39, 10 ** 40 - 1,
            -1, -99, -10 ** 9, -10 ** 39, 1 - 10 ** 40]


def many_names(many):
    """As many names, no two alike, not sorted."""
    return ["n" + "abcdefgh"[at % 8] + "zyxwvuts"[at // 8] for at in range(many)]


def name_lists():
    """Lists of names, no two alike."""
    return [[], ["a"], ["b", "a"], ["open", "shut"], many_names(24), many_names(25), many_names(60)]


def not_names():
    """Things that are no name."""
    return strange_things() + odd_texts() + whole_numbers() + name_lists()


def not_costs():
    """Things that are no cost."""
    numbers = [number for number in whole_numbers() if number < 0 or number > 99]
    return strange_things() + odd_texts() + numbers + name_lists() + ["a", "open"]


def not_name_lists():
    """Things that are no names."""
    spoilt = [["a", thing] for thing in odd_texts()[:40] + whole_numbers()]
    return (strange_things() + odd_texts() + whole_numbers() + spoilt + ["a", "open"]
            + [many_names(61), many_names(63), many_names(60) + ["naz"], ["a", "b", "a"],
               ["a"] * 60, many_names(24) + ["A"], tuple(many_names(3)), set(many_names(3)),
               {name: True for name in many_names(3)}])


def not_stretches():
    """Things that are no stretch."""
    return not_name_lists() + [[], many_names(25), many_names(60)]


def not_crews():
    """Things that are no crew."""
    return not_name_lists() + [[], many_names(7), many_names(24), many_names(60)]


def not_positions():
    """Things that are no position."""
    return strange_things() + odd_texts() + whole_numbers() + name_lists() + [
        "a", "opened", "shu", "shutt", "shutopen", "op"]
