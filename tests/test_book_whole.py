"""Points 5 to 10 of the works that a book tells, in whatever order its papers come."""

import random
import unittest

from chancedeeds import Pool
from papers import plain_works, told_of_book
from stillmain.book import Book
from stillmain.day import walk_day
from stillmain.deeds import answer_to
from stillmain.works import Works
from whole import NAMELESS, Whole
from workses import all_told_of_works


class BookWholeTest(Whole):
    def papers(self, chance, many):
        """Papers of a works that comes far, and some that come late and go ahead of others."""
        pool, works = Pool(4, 6, 3, 2, 3), Works()
        deeds = pool.layout_deeds(chance, 5, 3)[:-1]
        papers = []
        for at in range(many):
            deed = deeds[at] if at < len(deeds) else pool.deed(chance, works)
            answer_to(works, deed)
            late = at >= len(deeds) and chance.random() < 0.2
            papers.append((chance.randint(0, 10 * at) if late else 10 * at, at, deed))
        return papers

    def assert_each_moment(self, book):
        """At each time the whole holds; tell the deeds that were done, and in how many works a permit is given."""
        homes, given, deeds, works = {}, 0, [], Works()
        for time, number, answer in book.answers():
            deed = self.deeds[number]
            self.assertEqual(answer_to(works, deed), answer)
            if answer[0] == "done":
                self.note(homes, deed)
                deeds.append(deed)
            # Of papers of one time all count at that time.
            self.assert_whole(works, homes)
            given += "given" in [works.phase(job) for job in works.jobs()]
            if time % 70 == 0 and [other for other, _, _ in book.answers()].count(time) == 1:
                self.assertEqual(all_told_of_works(book.works_at(time)), all_told_of_works(works))
        return deeds, given

    def test_at_every_moment(self):
        given = 0
        for seed in range(10):
            chance = random.Random(seed)
            papers = self.papers(chance, 60)
            self.deeds = {number: deed for _, number, deed in papers}
            book, beside = Book(), Book()
            for paper in papers:
                book.bring(*paper)
            for paper in chance.sample(papers, len(papers)):
                beside.bring(*paper)
            self.assertEqual(told_of_book(book), told_of_book(beside))
            deeds, many = self.assert_each_moment(book)
            given += many
            works = book.works()
            self.assertEqual(all_told_of_works(works), all_told_of_works(plain_works(papers)))
            mended = self.end_all(works, chance)
            self.assert_as_it_stood(works, [deed for deed in deeds if deed[0] in NAMELESS] + mended)
        self.assertGreater(given, 20)

    def test_a_day_at_the_works_of_a_book(self):
        to_the_end = 0
        for seed in range(20):
            chance = random.Random(seed)
            papers, book = self.papers(chance, 50), Book()
            for paper in papers:
                book.bring(*paper)
            ahead = told_of_book(book)
            works = book.works()
            rows = [(chance.choice(("still", "trial", "again", "away", "gone")), job) for job in works.jobs()]
            done, clash = walk_day(works, rows)
            for _, deed in done:
                self.assertEqual(answer_to(works, deed)[0], "done")
            if clash is None:
                to_the_end += 1
            else:
                self.assertEqual(answer_to(works, clash[1]), ("refused",) + clash[2:])
            self.assertEqual(told_of_book(book), ahead)
        self.assertGreater(to_the_end, 0)


if __name__ == "__main__":
    unittest.main()
