"""Point 4 of a works: what is refused with Wrong, ahead of all else."""

import copy
import itertools
import unittest

from refusing import RefusingTest
from samples import many_names, not_costs, not_names, not_positions, not_stretches
from stillmain.errors import Wrong
from stillmain.works import Works
from workses import all_told_of_works, full_works, given_works

DOORS = {
    "add_room": ("name",), "add_line": ("name", "name", "name", "cost"), "add_drain": ("name", "name"),
    "add_source": ("name",), "take_room": ("name",), "take_line": ("name",), "take_drain": ("name",),
    "take_source": ("name",), "turn": ("name", "position"), "stick": ("name",), "mend": ("name",),
    "ask": ("name", "name", "stretch"), "begin": ("name",), "step": ("name",), "give": ("name",),
    "end": ("name",), "put_by": ("name",), "try_out": ("name",), "go_on": ("name",),
    "sign_on": ("name", "name"), "sign_off": ("name", "name"), "hand_over": ("name", "name", "name"),
    "relieve": ("name", "name"), "phase": ("name",), "stretch": ("name",), "crew_at": ("name",),
    "steps_left": ("name",), "lot": ("name",),
}
NOT_FITTING = {"name": not_names, "cost": not_costs, "position": not_positions, "stretch": not_stretches}
# Such as are let by or are refused otherwise.
FITTING = {"cost": (0, 99), "position": ("open", "shut"), "stretch": (["p"], ["z"])}
NAMES = (("jo", "q", "r"), ("z", "p", "y"), ("c", "s", "t"))


def fitting(call, which=0):
    return [NAMES[which % 3][at] if want == "name" else FITTING[want][which % 2]
            for at, want in enumerate(DOORS[call])]


class DoorsTest(RefusingTest):
    def assert_wrong(self, works, at, call, *handed, told=None):
        self.assert_refused(told or (lambda: all_told_of_works(works)), (Wrong, at), getattr(works, call), *handed)

    def test_one_thing_wrong(self):
        for works in (Works(), given_works(), full_works()):
            ahead = all_told_of_works(works)
            for call, wants in DOORS.items():
                for at, want in enumerate(wants):
                    for thing in NOT_FITTING[want]():
                        handed = fitting(call)
                        handed[at] = thing
                        self.assert_wrong(works, at, call, *handed, told=works.jobs)
            self.assertEqual(all_told_of_works(works), ahead)

    def test_beside_things_that_fit(self):
        works = given_works()
        for call, wants in DOORS.items():
            for at in range(len(wants)):
                for which in range(3):
                    for thing in (None, True, -1, "", "A", "a b", ["p", "p"], [], {"a": 1}):
                        handed = fitting(call, which)
                        handed[at] = thing
                        self.assert_wrong(works, at, call, *handed, told=works.jobs)

    def test_several_things_wrong(self):
        works = given_works()
        some = (True, 100, "", "Open", ["ann", "ann"], [], {}, ("p",))
        for call, wants in DOORS.items():
            for many in range(2, len(wants) + 1):
                for places in itertools.combinations(range(len(wants)), many):
                    for things in itertools.islice(itertools.product(some, repeat=many), 0, None, 1 + many):
                        handed = fitting(call)
                        for at, thing in zip(places, things):
                            handed[at] = thing
                        self.assert_wrong(works, places[0], call, *handed, told=works.jobs)

    def test_a_line_from_a_room_to_itself(self):
        works = given_works()
        for room in ("p", "r", "z"):
            for line in ("l", "a", "u"):
                self.assert_wrong(works, 2, "add_line", line, room, room, 1)
        self.assert_wrong(works, 2, "add_line", "l", "p", "p", 100)
        self.assert_wrong(works, 1, "add_line", "l", "P", "P", 100)

    def test_wrong_goes_ahead_of_all_else(self):
        works = given_works()
        self.assert_wrong(works, 3, "add_line", "a", "z", "y", 100)
        self.assert_wrong(works, 3, "add_line", "l", "r", "p", -1)
        self.assert_wrong(works, 3, "add_line", "l", "r", "p", True)
        self.assert_wrong(works, 1, "add_drain", "u", "Z")
        self.assert_wrong(works, 1, "turn", "z", "ajar")
        self.assert_wrong(works, 1, "turn", "c", None)
        self.assert_wrong(works, 2, "ask", "jo", "ann", [])
        self.assert_wrong(works, 2, "ask", "jo", "ann", ["z", "z"])
        self.assert_wrong(works, 2, "ask", "new", "ann", many_names(25))
        self.assert_wrong(works, 1, "ask", "jo", "Ann", ["z"])
        self.assert_wrong(works, 1, "sign_on", "z", "")
        self.assert_wrong(works, 1, "sign_off", "z", "")
        self.assert_wrong(works, 2, "hand_over", "z", "x", "")
        self.assert_wrong(works, 1, "hand_over", "z", "", "")
        self.assert_wrong(works, 1, "relieve", "x", "")
        self.assert_wrong(full_works(), 2, "ask", "z", "ann", "p")

    def test_what_is_handed_in_stays(self):
        works = given_works()
        things = [["p", "q", "p"], {"p": ["q"]}, [["p"], "q"], [], many_names(25)]
        ahead = copy.deepcopy(things)
        for thing in things:
            for call, wants in DOORS.items():
                for at in range(len(wants)):
                    handed = fitting(call)
                    handed[at] = thing
                    self.assert_wrong(works, at, call, *handed, told=works.jobs)
            self.assertEqual(things, ahead)
        rooms = ["r", "p"]
        works.ask("new", "ann", rooms)
        self.assertEqual(rooms, ["r", "p"])


if __name__ == "__main__":
    unittest.main()
