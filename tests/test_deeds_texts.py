"""Point 45: deeds written and read."""

import copy
import itertools
import random
import unittest

from chancedeeds import Pool, words_of
from deedlists import DEEDS_AND_TEXTS, FITTING, WANTED, fitting_deed
from refusing import RefusingTest
from samples import many_names, not_names, odd_texts, strange_things
from stillmain.deeds import is_deed, read_deed, show_deed
from stillmain.errors import MainsError, NoText
from stillmain.works import Works
from workses import given_works


class ShowTest(unittest.TestCase):
    def test_the_table(self):
        for deed, text in DEEDS_AND_TEXTS:
            handed = copy.deepcopy(deed)
            for _ in range(2):
                self.assertEqual(show_deed(deed), text)
                self.assertIs(type(show_deed(deed)), str)
            self.assertEqual(deed, handed)

    def test_each_word_with_all_that_fits(self):
        for word, wants in WANTED.items():
            for things in itertools.product(*[FITTING[want] for want in wants]):
                deed = (word,) + things
                if is_deed(deed):
                    self.assertEqual(show_deed(deed), words_of(deed))

    def test_each_cost(self):
        for cost in range(100):
            self.assertEqual(show_deed(("add_line", "a", "p", "q", cost)), f"add_line a p q {cost}")


class ReadTest(RefusingTest):
    def assert_no_text(self, text):
        self.assert_refused(list, (NoText, None), read_deed, text)

    def test_the_table(self):
        for deed, text in DEEDS_AND_TEXTS:
            for _ in range(2):
                told = read_deed(text)
                self.assertEqual(told, deed)
                self.assertIs(type(told), tuple)
                self.assertEqual([type(one) for one in told], [type(one) for one in deed])

    def test_written_and_read_back(self):
        for word, wants in WANTED.items():
            for things in itertools.product(*[FITTING[want] for want in wants]):
                deed = (word,) + things
                if is_deed(deed):
                    self.assertEqual(read_deed(words_of(deed)), deed)
                    self.assertEqual(read_deed(show_deed(deed)), deed)
        chance, works = random.Random(45), given_works()
        for _ in range(500):
            deed = Pool(9, 9, 9, 9, 9).deed(chance, works)
            self.assertEqual(read_deed(show_deed(deed)), deed)

    def test_each_cost(self):
        for cost in range(100):
            deed = read_deed(f"add_line a p q {cost}")
            self.assertEqual(deed, ("add_line", "a", "p", "q", cost))
            self.assertIs(type(deed[4]), int)
        for cost in ("100", "101", "999", "1000", "-1", "-0", "+1", "+0", "00", "01", "007", "09", "012", "1.0",
                     "1.", ".5", "1e1", "1_0", "0x1", "one", "", " ", "\n", "1\n", "\n1", "True", "None", "1,0",
                     "9" * 40, "0" * 40, "1" * 5000, "0" * 5000, "a", "12a", "a12", "1-1", "--1"):
            self.assert_no_text("add_line a p q " + cost)

    def test_the_rooms_of_ask(self):
        names = many_names(25)
        self.assertEqual(read_deed("ask jo ann " + " ".join(names[:24])), ("ask", "jo", "ann", names[:24]))
        self.assert_no_text("ask jo ann " + " ".join(names))
        for text in ("ask", "ask jo", "ask jo ann", "ask jo ann ", "ask jo ann p p", "ask jo ann p q p",
                     "ask jo ann P", "ask jo ann p,q", "ask jo ann [p]", "ask jo ann p 1", "ask jo  p"):
            self.assert_no_text(text)
        one, other = read_deed("ask jo ann p q"), read_deed("ask jo ann p q")
        one[3].append("z")
        self.assertEqual(other, ("ask", "jo", "ann", ["p", "q"]))
        self.assertEqual(read_deed("ask jo ann p q"), ("ask", "jo", "ann", ["p", "q"]))

    def test_spoilt_at_each_place(self):
        for deed, text in DEEDS_AND_TEXTS:
            for at in range(len(text) + 1):
                for sign in (" ", "\n", "A", "Z", "0", "-", ".", ",", "_", "/", "'", "(", "~"):
                    spoilt = text[:at] + sign + text[at:]
                    # A figure more makes another cost of some, and a blank two rooms of one.
                    if read_or_none(spoilt) is not None:
                        self.assertEqual(words_of(read_deed(spoilt)), spoilt)
                        self.assertIn(deed[0], ("add_line", "ask"))
                        self.assertIn(sign, " 0")
                    if sign not in " 0":
                        self.assert_no_text(spoilt)
                if at < len(text) and text[at] == " ":
                    self.assert_no_text(text[:at] + "  " + text[at + 1:])
                    for other in ("\n", "\t", ", ", "_"):
                        self.assert_no_text(text[:at] + other + text[at + 1:])

    def test_at_the_ends(self):
        for _, text in DEEDS_AND_TEXTS:
            for spoilt in (" " + text, text + " ", "\n" + text, text + "\n", text + "\r", text.upper(),
                           text.capitalize(), text + ".", "(" + text + ")", text + " " + text, text + "\n" + text):
                self.assert_no_text(spoilt)

    def test_a_word_more_or_less(self):
        for word in WANTED:
            words = show_deed(fitting_deed(word)).split(" ")
            if word != "ask":
                self.assert_no_text(" ".join(words[:-1]))
                self.assert_no_text(" ".join(words + ["a"]))
                self.assert_no_text(" ".join(words + ["0"]))
                self.assert_no_text(" ".join([word] + words))
            self.assert_no_text(word)
            self.assert_no_text(" ".join(words[1:]))
            for other in ("Add_room", "room", "addroom", "add-room", "phase", "still", "gone", "paper", "at"):
                self.assert_no_text(" ".join([other] + words[1:]))

    def test_names_that_are_none(self):
        for name in odd_texts() + ["1", "0", "open_", "a1", "abcdefghi"]:
            self.assert_no_text("add_room " + name)
            self.assert_no_text("relieve ann " + name)
            self.assert_no_text("relieve " + name + " ann")
            if " " not in name:
                self.assert_no_text("ask jo ann p " + name)
        for text in ("turn a", "turn a ajar", "turn a Open", "turn open", "turn a open shut", "turn shut a",
                     "add_line a p p 1", "add_line a p q", "add_line a p q 1 2", "add_line a p q r",
                     "add_line 1 p q 1", "add_line a 1 q 1", "add_line a p 1 1"):
            self.assert_no_text(text)

    def test_what_is_no_text(self):
        for thing in not_names() + strange_things():
            self.assert_no_text(thing)
        for deed, text in DEEDS_AND_TEXTS:
            self.assert_no_text(deed)
            self.assert_no_text(list(deed))
            self.assert_no_text([text])
            self.assert_no_text(text.encode())
        for text in ("", " ", "  ", "\n", "p", "step", "none"):
            self.assert_no_text(text)

    def test_no_text_stands_alone(self):
        with self.assertRaises(MainsError) as caught:
            read_deed("walk")
        self.assertIs(type(caught.exception), NoText)
        self.assertEqual(Works().jobs(), [])


def read_or_none(text):
    try:
        return read_deed(text)
    except NoText:
        return None


if __name__ == "__main__":
    unittest.main()
