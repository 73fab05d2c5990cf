"""Points 2 and 11: the seven questions of kinds."""

import copy
import unittest

from samples import many_names, name_lists, not_names, odd_texts, strange_things, whole_numbers
from stillmain import kinds
from stillmain.errors import Held, Wrong

QUESTIONS = {
    "whole": kinds.is_whole, "name": kinds.is_name, "cost": kinds.is_cost, "time": kinds.is_time,
    "position": kinds.is_position, "names": kinds.are_names, "stretch": kinds.is_stretch,
}


class KindsTest(unittest.TestCase):
    def assert_is(self, thing, *told):
        """The thing is of the told kinds and of no other ones."""
        for kind, question in QUESTIONS.items():
            self.assertIs(question(thing), kind in told, f"{kind} of {thing!r}")

    def test_the_questions_stand_in_their_module(self):
        for question in QUESTIONS.values():
            self.assertEqual(question.__module__, "stillmain.kinds")

    def test_whole_numbers(self):
        for number in (0, 1, 50, 98, 99):
            self.assert_is(number, "whole", "cost", "time")
        for number in (100, 101, 10 ** 9 - 1, 10 ** 9):
            self.assert_is(number, "whole", "time")
        for number in (10 ** 9 + 1, 10 ** 10, 10 ** 39, 10 ** 40 - 1):
            self.assert_is(number, "whole")
        for number in (-1, -2, -99, -100, -10 ** 9, -10 ** 39, 1 - 10 ** 40):
            self.assert_is(number, "whole")

    def test_each_number_near_the_bounds_of_a_cost(self):
        for number in range(-120, 221):
            self.assertIs(kinds.is_cost(number), 0 <= number < 100, number)
            self.assertIs(kinds.is_time(number), number >= 0, number)

    def test_truths_are_no_numbers(self):
        self.assert_is(True)
        self.assert_is(False)

    def test_none(self):
        self.assert_is(None)

    def test_names(self):
        for name in ("a", "z", "m", "az", "ab", "aa", "abcdefg", "abcdefgh", "zzzzzzzz", "none"):
            self.assert_is(name, "name")
        for letter in "abcdefghijklmnopqrstuvwxyz":
            self.assert_is(letter, "name")
            self.assert_is("xy" + letter, "name")

    def test_positions_are_names_too(self):
        self.assert_is("open", "name", "position")
        self.assert_is("shut", "name", "position")

    def test_texts_near_a_position(self):
        near = ("ope", "pen", "o", "op", "en", "opens", "opened", "shu", "hut", "s", "shuts",
                "nepo", "tuhs", "openshut", "shutopen", "closed", "close")
        for text in near:
            self.assert_is(text, "name")
        for text in ("Open", "OPEN", "opeN", "Shut", "SHUT", "open ", " open", "shut\n", "open\n",
                     "open shut", "open,shut", "\"open\"", "'shut'"):
            self.assert_is(text)

    def test_texts_that_are_no_names(self):
        for text in ("", "abcdefghi", "abcdefghij", "a" * 1000, "A", "Ab", "aB", "a1", "1", "1a",
                     " ", " a", "a ", "a b", "\n", "a\n", "\na", "a\nb", "abcdefgh\n", "abcdefg\n",
                     "`", "{", "@", "[", "_", "a_b", "a-b", "a.b", "~", "0", "99", "None"):
            self.assert_is(text)
        for text in odd_texts():
            self.assert_is(text)

    def test_strange_things(self):
        for thing in strange_things():
            if not isinstance(thing, list):
                self.assert_is(thing)

    def test_a_refusal(self):
        self.assert_is(Wrong(0))
        self.assert_is(Held(["a"]))
        self.assert_is([Wrong(0)])

    def test_how_many_names(self):
        self.assert_is([], "names")
        for many in range(1, 25):
            self.assert_is(many_names(many), "names", "stretch")
        for many in range(25, 61):
            self.assert_is(many_names(many), "names")
        for many in (61, 62, 64):
            self.assert_is(many_names(many))

    def test_names_in_any_order(self):
        self.assert_is(["b", "a"], "names", "stretch")
        self.assert_is(["a", "b"], "names", "stretch")
        self.assert_is(["open", "shut"], "names", "stretch")
        self.assert_is(["a", "aa", "aaa", "abcdefgh"], "names", "stretch")

    def test_two_alike(self):
        self.assert_is(["a", "a"])
        self.assert_is(["a", "b", "a"])
        self.assert_is(["b", "a", "a"])
        self.assert_is(["open", "open"])
        for many in (2, 23, 24, 25, 59, 60):
            for at in range(many - 1):
                names = many_names(many)
                names[-1] = names[at]
                self.assert_is(names)
        # Texts that are alike but not the same object.
        self.assert_is(["".join(["a", "b"]), "".join(["a", "b"])])

    def test_a_member_that_is_no_name(self):
        for thing in not_names():
            self.assert_is([thing])
            self.assert_is([thing, "a"])
            self.assert_is(["a", thing, "b"])
            self.assert_is(["b", "a", thing])
            self.assert_is([thing, thing])
        for thing in ("", "A", None, True, 1, ["a"], [], {}, ("a",), "abcdefghi", "a\n"):
            for many in (24, 25, 60):
                names = many_names(many)
                names[-1] = thing
                self.assert_is(names)

    def test_other_things_in_the_place_of_a_list(self):
        self.assert_is(("a", "b"))
        self.assert_is(())
        self.assert_is("ab", "name")
        self.assert_is("")
        self.assert_is({"a": 1})
        self.assert_is({})
        self.assert_is({"a", "b"})
        self.assert_is({"a": 1}.keys())
        self.assert_is(tuple(many_names(24)))
        self.assert_is(iter(["a"]))

    def test_lists_within_lists(self):
        self.assert_is([[]])
        self.assert_is([["a"]])
        self.assert_is([["a"], "a"])
        self.assert_is(["a", ["a"]])
        self.assert_is([[["a"]]])
        ring = ["a"]
        ring.append(ring)
        self.assert_is(ring)

    def test_one_kind_in_anothers_list(self):
        for thing in whole_numbers():
            self.assert_is([thing])
            self.assert_is((thing,))
            self.assert_is({thing: thing})

    def test_asking_changes_nothing(self):
        lists = name_lists() + [["b", "a", "b"], ["b", 3, None], [["b", "a"]], many_names(61)]
        for thing in lists + [{"b": ["b", "a"]}, {}]:
            ahead = copy.deepcopy(thing)
            for question in QUESTIONS.values():
                first = question(thing)
                self.assertEqual(thing, ahead)
                self.assertIs(question(thing), first)

    def test_a_list_is_asked_as_it_stands(self):
        names = []
        self.assertIs(kinds.is_stretch(names), False)
        names.append("a")
        self.assertIs(kinds.is_stretch(names), True)
        names.append("a")
        self.assertIs(kinds.are_names(names), False)
        names.pop()
        self.assertIs(kinds.are_names(names), True)


if __name__ == "__main__":
    unittest.main()
