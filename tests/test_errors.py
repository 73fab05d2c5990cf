"""Point 4 and point 11: the refusals."""

import unittest

from samples import name_lists, odd_texts, strange_things, whole_numbers
from stillmain import errors
from stillmain.errors import (
    Held, InUse, Known, Lacks, MainsError, NoPart, NoRow, NoText, NotDry, NotNow, Stuck, There,
    TooMany, Wrong,
)

FIELDS = [
    (Wrong, "at"), (There, "name"), (Lacks, "name"), (TooMany, "most"), (InUse, "name"),
    (Held, "hands"), (Stuck, "name"), (NoPart, "way"), (NotNow, "job"), (NotDry, "damp"),
    (Known, "number"),
]
BARE = [NoText, NoRow]
REFUSALS = [refusal for refusal, _ in FIELDS] + BARE


def made(refusal):
    """A refusal of this class, of whatever it wants."""
    return refusal() if refusal in BARE else refusal("a")


class FamilyTest(unittest.TestCase):
    def test_there_are_thirteen(self):
        self.assertEqual(len(REFUSALS), 13)
        self.assertEqual(len({refusal.__name__ for refusal in REFUSALS}), 13)

    def test_each_is_a_class_of_the_module_of_its_own_name(self):
        for refusal in REFUSALS + [MainsError]:
            self.assertIs(getattr(errors, refusal.__name__), refusal)
            self.assertEqual(refusal.__module__, "stillmain.errors")

    def test_mains_error_stands_under_value_error(self):
        self.assertTrue(issubclass(MainsError, ValueError))
        self.assertIsNot(MainsError, ValueError)

    def test_each_stands_under_mains_error(self):
        for refusal in REFUSALS:
            self.assertTrue(issubclass(refusal, MainsError), refusal)
            self.assertIsNot(refusal, MainsError)
            self.assertIsInstance(made(refusal), MainsError)
            self.assertIsInstance(made(refusal), ValueError)

    def test_none_stands_under_another_one(self):
        for refusal in REFUSALS:
            for other in REFUSALS:
                self.assertEqual(issubclass(refusal, other), refusal is other, (refusal, other))
                self.assertEqual(isinstance(made(refusal), other), refusal is other)

    def test_each_can_be_raised_and_caught(self):
        for refusal in REFUSALS:
            for family in (refusal, MainsError, ValueError):
                with self.assertRaises(family) as caught:
                    raise made(refusal)
                self.assertIs(type(caught.exception), refusal)


class FieldTest(unittest.TestCase):
    def assert_kept(self, refusal, field, thing):
        kept = getattr(refusal(thing), field)
        self.assertIs(type(kept), type(thing), (refusal, thing))
        # A copy of a thing without an == of its own is unlike it, and a copy may be kept.
        if type(thing).__eq__ is not object.__eq__ and repr(thing) != "[[...]]":
            self.assertEqual(repr(kept), repr(thing))

    def test_each_keeps_what_it_is_made_of(self):
        for refusal, field in FIELDS:
            for thing in strange_things() + whole_numbers() + name_lists() + odd_texts():
                self.assert_kept(refusal, field, thing)

    def test_each_keeps_what_it_is_made_for(self):
        self.assertEqual(Wrong(3).at, 3)
        self.assertEqual(There("a").name, "a")
        self.assertEqual(Lacks("b").name, "b")
        self.assertEqual(TooMany(24).most, 24)
        self.assertEqual(InUse("c").name, "c")
        self.assertEqual(Held(["b", "a", "b"]).hands, ["b", "a", "b"])
        self.assertEqual(Stuck("d").name, "d")
        self.assertEqual(NoPart(["p", "a", "q"]).way, ["p", "a", "q"])
        self.assertEqual(NotNow("e").job, "e")
        self.assertEqual(NotDry(["q", "p"]).damp, ["q", "p"])
        self.assertEqual(Known(7).number, 7)

    def test_what_is_handed_in_stays(self):
        for refusal, _ in FIELDS:
            hands = ["b", "a", "b"]
            refusal(hands)
            self.assertEqual(hands, ["b", "a", "b"])

    def test_each_keeps_its_own(self):
        for refusal, field in FIELDS:
            first, second = refusal(["a"]), refusal(["b"])
            getattr(second, field).append("c")
            self.assertEqual(getattr(first, field), ["a"])
            self.assertEqual(getattr(second, field), ["b", "c"])

    def test_a_refusal_of_a_refusal(self):
        for refusal, field in FIELDS:
            kept = getattr(refusal(Held(["a"])), field)
            self.assertIs(type(kept), Held)
            self.assertEqual(kept.hands, ["a"])

    def test_the_field_is_kept_when_it_comes(self):
        for refusal, field in FIELDS:
            with self.assertRaises(refusal) as caught:
                raise refusal(["a", "b"])
            self.assertEqual(getattr(caught.exception, field), ["a", "b"])

    def test_two_are_made_of_nothing(self):
        for refusal in BARE:
            self.assertIsInstance(refusal(), refusal)


if __name__ == "__main__":
    unittest.main()
