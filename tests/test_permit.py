"""Point 53: permits, told, compared, written and shown."""

import itertools
import unittest

from refusing import RefusingTest
from samples import many_names, not_crews, not_name_lists, not_names
from stillmain import permit as module
from stillmain.errors import Wrong
from stillmain.permit import Permit, holds_still, permit_of, permits_of
from workses import given_works

METHODS = ("called", "crew_now", "side", "switches", "drains", "covers")
PARTS = ("jo", ["ann", "bo"], ["p", "q"], ["a", "b"], ["u", "v"])


def told_of_permit(permit):
    """All that a permit tells."""
    return (permit.called(), permit.crew_now(), permit.side(), permit.switches(), permit.drains(), len(permit),
            str(permit), repr(permit))


class InterfaceTest(unittest.TestCase):
    def test_all_is_defined_in_its_file(self):
        for one in (Permit, permit_of, permits_of, holds_still):
            self.assertEqual(one.__module__, "stillmain.permit")
            self.assertIs(getattr(module, one.__name__), one)
        for method in METHODS:
            self.assertIn(method, vars(Permit))

    def test_what_is_told_is_of_pythons_own_kinds(self):
        permit = Permit(*PARTS)
        self.assertIs(type(permit.called()), str)
        for told in (permit.crew_now(), permit.side(), permit.switches(), permit.drains()):
            self.assertIs(type(told), list)
        for told in (permit.covers("p"), permit == permit, permit != permit, bool(permit)):
            self.assertIs(type(told), bool)
        self.assertIs(type(len(permit)), int)
        self.assertIs(type(str(permit)), str)
        self.assertIs(type(repr(permit)), str)


class ToldTest(unittest.TestCase):
    def test_what_it_was_made_of(self):
        permit = Permit(*PARTS)
        self.assertEqual((permit.called(), permit.crew_now(), permit.side(), permit.switches(), permit.drains()), PARTS)

    def test_lists_keep_their_order(self):
        permit = Permit("jo", ["zed", "ann"], ["q", "p"], ["b", "a"], ["v", "u"])
        self.assertEqual(permit.crew_now(), ["zed", "ann"])
        self.assertEqual(permit.side(), ["q", "p"])
        self.assertEqual(permit.switches(), ["b", "a"])
        self.assertEqual(permit.drains(), ["v", "u"])

    def test_drains_by_place_by_name_left_out_and_none(self):
        for permit in (Permit("jo", ["ann"], ["p"], ["a"]), Permit("jo", ["ann"], ["p"], ["a"], None),
                       Permit("jo", ["ann"], ["p"], ["a"], drains=None), Permit("jo", ["ann"], ["p"], ["a"], []),
                       Permit("jo", ["ann"], ["p"], ["a"], drains=[])):
            self.assertEqual(permit.drains(), [])
            self.assertEqual(str(permit), "jo : ann : p : a : -")
        for permit in (Permit("jo", ["ann"], ["p"], ["a"], ["u"]), Permit("jo", ["ann"], ["p"], ["a"], drains=["u"])):
            self.assertEqual(permit.drains(), ["u"])

    def test_two_without_drains_share_no_list(self):
        one, other = Permit("jo", ["ann"], ["p"], ["a"]), Permit("jo", ["ann"], ["p"], ["a"])
        one.drains().append("u")
        self.assertEqual((one.drains(), other.drains()), ([], []))

    def test_lists_are_the_askers_own(self):
        parts = ["jo", ["ann", "bo"], ["p", "q"], ["a", "b"], ["u", "v"]]
        permit = Permit(*parts)
        ahead = told_of_permit(permit)
        for handed in parts[1:]:
            handed.append("zz")
            handed.reverse()
            self.assertEqual(told_of_permit(permit), ahead)
        for told in (permit.crew_now, permit.side, permit.switches, permit.drains):
            for spoil in (list.clear, list.reverse, lambda one: one.append("zz")):
                spoil(told())
                self.assertEqual(told_of_permit(permit), ahead)
        self.assertEqual(permit.crew_now(), ["ann", "bo"])

    def test_covers(self):
        permit = Permit("jo", ["ann"], ["q", "p"], ["a"], ["u"])
        for room, due in (("p", True), ("q", True), ("r", False), ("jo", False), ("ann", False), ("a", False),
                          ("u", False), ("pq", False)):
            self.assertIs(permit.covers(room), due)
        self.assertIs(Permit("jo", ["ann"], [], []).covers("p"), False)


class ComparedTest(unittest.TestCase):
    def test_alike(self):
        one, other = Permit(*PARTS), Permit(*PARTS)
        self.assertIs(one == other, True)
        self.assertIs(one != other, False)
        self.assertIs(one == one, True)
        self.assertIs(Permit("jo", ["ann"], [], []) == Permit("jo", ["ann"], [], [], []), True)

    def test_unlike_in_each_of_the_five(self):
        others = ("al", ["ann", "cy"], ["p", "r"], ["a", "c"], ["u", "w"])
        for at, part in enumerate(others):
            parts = list(PARTS)
            parts[at] = part
            self.assert_unlike(Permit(*parts))

    def test_unlike_by_order_and_by_number(self):
        for at in range(1, 5):
            for change in (lambda part: part[::-1], lambda part: part[:1], lambda part: part + ["zz"]):
                parts = list(PARTS)
                parts[at] = change(parts[at])
                self.assert_unlike(Permit(*parts))
        for at in range(2, 5):
            parts = list(PARTS)
            parts[at] = []
            self.assert_unlike(Permit(*parts))

    def assert_unlike(self, other):
        permit = Permit(*PARTS)
        self.assertIs(permit == other, False)
        self.assertIs(other == permit, False)
        self.assertIs(permit != other, True)
        self.assertIs(other != permit, True)

    def test_swapped_parts(self):
        lists = (["p", "q"], ["a", "b"], ["u", "v"])
        for order in itertools.permutations(lists):
            if order != lists:
                self.assert_unlike(Permit("jo", ["ann", "bo"], *order))

    def test_beside_what_is_none(self):
        permit = Permit(*PARTS)
        for thing in (None, True, False, 2, 0, "", "jo", str(permit), repr(permit), PARTS, list(PARTS), [], {},
                      permit.switches(), Permit, object(), given_works()):
            self.assertIs(permit == thing, False, thing)
            self.assertIs(thing == permit, False, thing)
            self.assertIs(permit != thing, True, thing)
            self.assertIs(thing != permit, True, thing)
        self.assertIs(Permit("jo", ["ann"], [], []) == None, False)  # noqa: E711
        self.assertNotIn(permit, [None, 0, "jo"])
        self.assertIn(permit, [None, Permit(*PARTS)])


class WrittenTest(unittest.TestCase):
    def test_the_length_and_the_truth(self):
        for many in (0, 1, 2, 40, 60):
            permit = Permit("jo", ["ann"], ["p"], many_names(many), ["u"])
            self.assertEqual(len(permit), many)
            self.assertIs(bool(permit), many > 0)
            self.assertEqual("yes" if permit else "no", "yes" if many else "no")
        self.assertEqual(len(Permit("jo", ["ann", "bo"], ["p", "q", "r"], [], ["u"])), 0)

    def test_the_row(self):
        for permit, row in (
                (Permit("jo", ["ann", "bo"], ["p", "q"], ["a", "b"]), "jo : ann bo : p q : a b : -"),
                (Permit(*PARTS), "jo : ann bo : p q : a b : u v"),
                (Permit("jo", ["ann"], ["p"], [], ["u"]), "jo : ann : p : - : u"),
                (Permit("jo", ["ann"], [], [], []), "jo : ann : - : - : -"),
                (Permit("al", ["zed", "bo", "ann"], ["q", "p"], ["b", "a"], ["v", "u"]),
                 "al : zed bo ann : q p : b a : v u")):
            self.assertEqual(str(permit), row)
            self.assertEqual(repr(permit), "Permit(" + row + ")")
            self.assertEqual(f"{permit}", row)
            self.assertEqual(f"{permit!s}", row)
            self.assertEqual(f"{permit!r}", "Permit(" + row + ")")
            self.assertEqual(f"<{permit}> {permit!r}", f"<{row}> Permit({row})")
            self.assertEqual("{} {!r}".format(permit, permit), f"{row} Permit({row})")
            self.assertEqual(str([permit]), "[Permit(" + row + ")]")

    def test_asking_changes_nothing(self):
        permit = Permit(*PARTS)
        self.assertEqual(told_of_permit(permit), told_of_permit(permit))


class DoorsTest(RefusingTest):
    def assert_not_made(self, at, *handed, **named):
        self.assert_refused(list, (Wrong, at), lambda *things: Permit(*things, **named), *handed)

    def test_one_thing_wrong(self):
        for thing in not_names():
            self.assert_not_made(0, thing, *PARTS[1:])
        for thing in not_crews():
            self.assert_not_made(1, "jo", thing, *PARTS[2:])
        for thing in not_name_lists():
            self.assert_not_made(2, "jo", ["ann"], thing, *PARTS[3:])
            self.assert_not_made(3, "jo", ["ann"], ["p"], thing, ["u"])
            if thing is not None:
                self.assert_not_made(4, *PARTS[:4], thing)
                self.assert_not_made(4, *PARTS[:4], drains=thing)

    def test_several_things_wrong(self):
        some = (True, 0, "", "Jo", ["a", "a"], ["A"], {}, ("a",), many_names(61))
        for many in range(2, 6):
            for places in itertools.combinations(range(5), many):
                for first in some:
                    for second in some:
                        handed = list(PARTS)
                        for at, thing in zip(places, itertools.cycle((first, second))):
                            handed[at] = thing
                        self.assert_not_made(places[0], *handed)

    def test_crews_of_none_and_of_seven(self):
        for crew in ([], many_names(7), None):
            self.assert_not_made(1, "jo", crew, ["p"], ["a"])
        for many in range(1, 7):
            self.assertEqual(Permit("jo", many_names(many), ["p"], ["a"]).crew_now(), many_names(many))
        permit = Permit("jo", ["ann"], many_names(60), many_names(60), many_names(60))
        self.assertEqual(len(permit), 60)
        self.assert_not_made(2, "jo", ["ann"], None, ["a"])
        self.assert_not_made(3, "jo", ["ann"], ["p"], None)

    def test_covers_what_is_no_name(self):
        permit = Permit(*PARTS)
        for thing in not_names():
            self.assert_refused(lambda: told_of_permit(permit), (Wrong, 0), permit.covers, thing)


if __name__ == "__main__":
    unittest.main()
