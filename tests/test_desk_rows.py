"""Point 52: what a desk refuses, and in which order."""

import unittest

from papers import small_papers
from refusing import RefusingTest
from samples import name_lists, odd_texts, strange_things, whole_numbers
from stillmain.desk import Desk
from stillmain.errors import Known, Lacks, NoRow, TooMany

LAST = 10 ** 9
OF_ALL = ("live", "wet", "shut", "opened", "jobs")
OF_ONE = ("phase", "crew", "lot", "steps", "tags", "stands", "way")
NOT_NUMBERS = (
    "", "00", "01", "007", "+1", "-1", "-0", "1.0", "1e3", "1_000", "0x1", "one", "a", "1a", "a1", "\n", "1\n", "\n1",
    str(LAST + 1), "1000000001", "2000000000", "9999999999", "10000000000", "01000000000", "9" * 20, "1" * 5000,
    "0" * 5000, ",", "1,", "True", "None")


def busy_desk():
    desk = Desk()
    for time, number, row in small_papers():
        desk.say(f"paper {time} {number} {row}")
    return desk


def full_desk():
    desk = Desk()
    for at in range(60):
        desk.say(f"paper {at} {at} stick a")
    return desk


class RowsTest(RefusingTest):
    def assert_refused_row(self, desk, refusal, row):
        self.assert_refused(lambda: (desk.say("answers"), desk.say("live"), desk.say("jobs")), refusal, desk.say, row)

    def assert_no_row(self, row):
        for desk in self.desks:
            self.assert_refused_row(desk, (NoRow, None), row)

    @classmethod
    def setUpClass(cls):
        small = Desk()
        for row in ("add_room p", "add_drain u p", "ask jo ann p"):
            small.say("paper 1 " + str(len(row)) + " " + row)
        cls.desks = [Desk(), small]


class NoRowTest(RowsTest):
    def test_what_is_no_text(self):
        for thing in strange_things() + whole_numbers() + name_lists() + [b"live", ["live"], ("live",)]:
            self.assert_no_row(thing)

    def test_texts_of_no_kind(self):
        for text in odd_texts() + ["a", "p", "at", "paper", "is", "rows", "none", "add_room p", "step jo", "begin jo",
                                   "still jo", "Live", "LIVE", "ANSWERS", "answer", "lives", "open", "works"]:
            self.assert_no_row(text)

    def test_blanks_doubled_and_at_an_end(self):
        rows = (["answers", "paper 1 900 add_room z", "paper 1 900 ask jo ann p q"] + list(OF_ALL)
                + [word + " p" for word in OF_ONE] + ["at 5 " + word for word in OF_ALL]
                + ["at 5 " + word + " p" for word in OF_ONE])
        for row in rows:
            for spoilt in (" " + row, row + " ", "  " + row, row + "  ", "\n" + row, row + "\n", row + "\r"):
                self.assert_no_row(spoilt)
            for at, sign in enumerate(row):
                if sign == " ":
                    self.assert_no_row(row[:at] + "  " + row[at + 1:])
                    self.assert_no_row(row[:at] + "\n" + row[at + 1:])
                    self.assert_no_row(row[:at] + "\t" + row[at + 1:])

    def test_words_too_many_and_too_few(self):
        for word in OF_ALL + ("answers",):
            self.assert_no_row(word + " p")
            self.assert_no_row(word + " " + word)
            self.assert_no_row("p " + word)
        for word in OF_ONE:
            self.assert_no_row(word)
            self.assert_no_row(word + " p q")
            self.assert_no_row("at 5 " + word)
            self.assert_no_row("at 5 " + word + " p q")

    def test_names_that_are_none(self):
        names = [name for name in odd_texts() if name]
        for word in OF_ONE:
            for name in names[::3] + ["P", "jo1", "j-o", "1", "0", "jo,", "jo.", "abcdefghi", "Jo", "add_room"]:
                self.assert_no_row(f"{word} {name}")
                self.assert_no_row(f"at 5 {word} {name}")

    def test_at(self):
        for row in ("at", "at 5", "at 5 ", "at live", "at live 5", "live at 5", "at 5 at 6 live", "at 5 5 live",
                    "at 5 answers", "at 0 answers", "at 5 paper 5 900 add_room z", "at 5 add_room z", "At 5 live",
                    "at 5 at live", "answers at 5", "5 live", "at 5, live"):
            self.assert_no_row(row)

    def test_times_that_are_none(self):
        for number in NOT_NUMBERS:
            self.assert_no_row(f"at {number} live")
            self.assert_no_row(f"at {number} phase jo")
            self.assert_no_row(f"paper {number} 900 add_room z")
            self.assert_no_row(f"paper 1 {number} add_room z")
            self.assert_no_row(f"paper {number} {number} add_room z")
        desk = busy_desk()
        for number in ("0", "1", "9", "10", "100", str(LAST - 1), str(LAST)):
            self.assertEqual(type(desk.say(f"at {number} live")), str)
            self.assertEqual(desk.say(f"paper {number} 900 add_room z"), "done")
            desk = busy_desk()

    def test_deeds_that_are_no_texts_of_deeds(self):
        for deed in ("", "add_room", "add_room P", "add_room p q", "add_room  p", "add_line a p q 012",
                     "add_line a p q 100", "add_line a p p 1", "ask jo ann", "ask jo ann p p", "turn a ajar",
                     "still jo", "live", "paper 1 1 add_room p", "add_room p\n", " add_room p", "ADD_ROOM p",
                     "step", "step jo 1"):
            self.assert_no_row(f"paper 1 900 {deed}")
        for row in ("paper", "paper ", "paper 1", "paper 1 900", "paper 1 900 ", "paper add_room p",
                    "paper 1 add_room p", "paper 1 900 900 add_room p", "Paper 1 900 add_room p",
                    "papers 1 900 add_room p"):
            self.assert_no_row(row)


class OrderTest(RowsTest):
    def test_known(self):
        desk = busy_desk()
        for row, number in (("paper 1 0 add_room p", 0), ("paper 0 0 add_room q", 0), ("paper 160 16 ask jo ann t", 16),
                            ("paper 170 18 step jo", 18)):
            self.assert_refused_row(desk, (Known, number), row)

    def test_too_many(self):
        desk = full_desk()
        self.assert_refused_row(desk, (TooMany, 60), "paper 0 60 stick a")
        self.assert_refused_row(desk, (TooMany, 60), f"paper {LAST} {LAST} add_room p")
        self.assert_refused_row(desk, (Known, 7), "paper 8 7 stick a")
        self.assert_refused_row(desk, (Known, 7), "paper 7 7 mend a")
        self.assertEqual(desk.say("paper 7 7 stick a"), "refused Lacks a")

    def test_no_row_goes_ahead_of_known_and_of_too_many(self):
        for desk in (full_desk(), busy_desk()):
            for row in ("paper 8 7 stick", "paper 8 07 stick a", "paper 08 7 stick a", "paper 8 7 stick A",
                        "paper 8 60 stick", "paper 8 7 add_line a p q 00"):
                self.assert_refused_row(desk, (NoRow, None), row)

    def test_lacks(self):
        desk = busy_desk()
        for word in ("phase", "crew", "lot", "steps"):
            for name in ("al", "r", "c", "ann"):
                self.assert_refused_row(desk, (Lacks, name), f"{word} {name}")
        for word in ("tags", "stands"):
            for name in ("z", "e", "p", "jo"):
                self.assert_refused_row(desk, (Lacks, name), f"{word} {name}")
        for name in ("z", "a", "u", "jo"):
            self.assert_refused_row(desk, (Lacks, name), f"way {name}")

    def test_lacks_at_a_time(self):
        desk = busy_desk()
        for row, name in (("at 159 phase jo", "jo"), ("at 0 crew jo", "jo"), ("at 59 stands a", "a"),
                          ("at 59 tags a", "a"),
                          ("at 9 way q", "q"), ("at 0 lot al", "al")):
            self.assert_refused_row(desk, (Lacks, name), row)
        for row in ("at 160 phase jo", "at 60 stands a", "at 60 tags a", "at 10 way q"):
            self.assertEqual(type(desk.say(row)), str)

    def test_no_row_goes_ahead_of_lacks(self):
        desk = busy_desk()
        for row in ("phase al jo", "at 05 phase al", "tags z z", "way z ", "at -1 way z", "stands  z"):
            self.assert_refused_row(desk, (NoRow, None), row)

    def test_an_ended_job(self):
        desk = busy_desk()
        for at, row in enumerate(("end jo", "step jo", "step jo", "step jo")):
            desk.say(f"paper 1000 {1000 + at} {row}")
        for word in ("phase", "crew", "lot", "steps"):
            self.assert_refused_row(desk, (Lacks, "jo"), f"{word} jo")
        self.assertEqual(desk.say("at 999 phase jo"), "given")


if __name__ == "__main__":
    unittest.main()
