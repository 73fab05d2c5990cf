"""The desk: a book that is told rows of text."""

from stillmain.book import Book
from stillmain.deeds import read_deed
from stillmain.errors import NoRow, NoText
from stillmain.figures import number_in
from stillmain.kinds import is_time
from stillmain.questions import is_question, told_of
from stillmain.words import answer_in_words


class Desk:
    """Keeps a book, brings papers to it and answers questions of it."""

    def __init__(self):
        self._book = Book()

    def say(self, text):
        """Tell the answer to a row of text."""
        if not isinstance(text, str):
            raise NoRow()
        words = text.split(" ")
        if words[0] == "paper":
            return self._bring(words[1:])
        if words == ["answers"]:
            return self._answers()
        if words[0] == "at":
            return self._ask_at(words[1:])
        if not is_question(words):
            raise NoRow()
        return told_of(self._book.works(), words)

    def _bring(self, words):
        if len(words) < 2:
            raise NoRow()
        time, number, deed = _time_in(words[0]), _time_in(words[1]), _deed_in(words[2:])
        changed = self._book.bring(time, number, deed)
        answers = {other: answer for _, other, answer in self._book.answers()}
        told = answer_in_words(answers[number])
        if not changed:
            return told
        return " ".join([told, ";"] + [str(other) for other in changed])

    def _answers(self):
        answers = self._book.answers()
        if not answers:
            return "none"
        return ", ".join([f"{number} {answer_in_words(answer)}" for _, number, answer in answers])

    def _ask_at(self, words):
        if not is_question(words[1:]):
            raise NoRow()
        return told_of(self._book.works_at(_time_in(words[0])), words[1:])


def _time_in(word):
    """Tell the time, or the number of a paper, that a word writes."""
    time = number_in(word)
    if not is_time(time):
        raise NoRow()
    return time


def _deed_in(words):
    try:
        return read_deed(" ".join(words))
    except NoText:
        raise NoRow() from None
