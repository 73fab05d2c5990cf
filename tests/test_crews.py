"""Point 24, what a crew is: the package's own stillmain.kinds.is_crew."""

import unittest

from samples import many_names, not_crews
from stillmain.kinds import is_crew


class CrewsTest(unittest.TestCase):
    def test_crews(self):
        for many in range(1, 7):
            self.assertIs(is_crew(many_names(many)), True)
        self.assertIs(is_crew(["bo", "ann"]), True)

    def test_what_is_none(self):
        for thing in not_crews():
            self.assertIs(is_crew(thing), False, thing)
        for hands in ([], many_names(7), ["ann", "bo", "ann"], ["ann", "ann"], ("ann",), "ann",
                      ["ann", "Bo"], ["ann", 0], [["ann"]], None):
            self.assertIs(is_crew(hands), False, hands)


if __name__ == "__main__":
    unittest.main()
