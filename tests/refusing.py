"""Telling refusals apart, twice alike, with nothing changed."""

import unittest

from stillmain.errors import (
    Held, InUse, Known, Lacks, NoPart, NotDry, NotNow, Stuck, There, TooMany, Wrong)

FIELD = {
    Wrong: "at", There: "name", Lacks: "name", TooMany: "most", InUse: "name", Held: "hands",
    Stuck: "name", NoPart: "way", NotNow: "job", NotDry: "damp", Known: "number",
}


class RefusingTest(unittest.TestCase):
    def assert_refused(self, told, refusal, call, *handed):
        """The call is refused so, twice alike; what is told() ahead is told behind, too."""
        kind, kept = refusal
        ahead, shown = told(), repr(handed)
        for _ in range(2):
            with self.assertRaises(ValueError, msg=(call, handed)) as caught:
                call(*handed)
            self.assertIs(type(caught.exception), kind, (call, handed))
            if kind in FIELD:
                borne = getattr(caught.exception, FIELD[kind])
                self.assertEqual(borne, kept, (call, handed))
                self.assertIs(type(borne), type(kept))
                if type(borne) is list:
                    # It is the asker's own.
                    borne.append("zz")
                    borne.reverse()
            self.assertEqual(told(), ahead, (call, handed))
        self.assertEqual(repr(handed), shown)
