"""The book: papers of deeds, which count by their times, whenever they come."""

from stillmain.deeds import answer_to, copied_deed, is_deed, show_deed
from stillmain.doors import need
from stillmain.errors import Known, TooMany
from stillmain.kinds import is_time
from stillmain.works import Works

MOST_PAPERS = 60


class Book:
    """Papers by their numbers."""

    def __init__(self):
        # Of each number the paper's time and its deed. Nothing else is kept, so what is told
        # can't hang on the order in which they came.
        self._papers = {}

    def bring(self, time, number, deed):
        """Keep a paper; tell the numbers of those kept ahead whose answer is another one now."""
        need(0, is_time(time))
        need(1, is_time(number))
        need(2, is_deed(deed))
        if number in self._papers:
            self._refuse_unlike(time, number, deed)
            return []
        if len(self._papers) >= MOST_PAPERS:
            raise TooMany(MOST_PAPERS)
        ahead = self.answers()
        self._papers[number] = (time, copied_deed(deed))
        now = {other: answer for _, other, answer in self.answers()}
        return [other for _, other, answer in ahead if now[other] != answer]

    def answers(self):
        """Tell all papers' times, numbers and answers, in their order."""
        works = Works()
        return [(time, number, answer_to(works, deed)) for time, number, deed in self._in_order()]

    def works(self):
        """Tell the works of all papers."""
        return _works_of(self._in_order())

    def works_at(self, time):
        """Tell the works as it stood at a time."""
        need(0, is_time(time))
        return _works_of([paper for paper in self._in_order() if paper[0] <= time])

    def _refuse_unlike(self, time, number, deed):
        kept_time, kept_deed = self._papers[number]
        if time != kept_time or show_deed(deed) != show_deed(kept_deed):
            raise Known(number)

    def _in_order(self):
        places = sorted([(self._papers[number][0], number) for number in self._papers])
        return [(time, number, self._papers[number][1]) for time, number in places]


def _works_of(papers):
    works = Works()
    for _, _, deed in papers:
        # What is refused counts for nothing.
        answer_to(works, deed)
    return works
