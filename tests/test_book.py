"""Points 48 and 49: papers, what is told when one is brought, the answers and the works."""

import copy
import itertools
import random
import unittest

from chancedeeds import Pool
from deedlists import DEEDS_AND_TEXTS, WANTED, fitting_deed, not_deeds, spoilt_deeds
from keeping import kept
from papers import book_of, brought, deed_of, full_book, plain_answers, plain_works, small_papers, told_of_book
from refusing import RefusingTest
from samples import name_lists, odd_texts, strange_things, whole_numbers
from stillmain import book as module
from stillmain.book import Book
from stillmain.errors import Known, TooMany, Wrong
from stillmain.works import Works
from workses import all_told_of_works, called, done, works_of

LAST = 10 ** 9


class BookTest(RefusingTest):
    def assert_not_brought(self, book, refusal, *handed):
        self.assert_refused(lambda: told_of_book(book), refusal, book.bring, *handed)

    def assert_tells(self, book, papers):
        """The book tells what the papers (time, number, deed) come to."""
        self.assertEqual(book.answers(), plain_answers(papers))
        self.assertEqual(all_told_of_works(book.works()), all_told_of_works(plain_works(papers)))


class InterfaceTest(unittest.TestCase):
    def test_the_class_defines_its_methods_itself(self):
        self.assertEqual(Book.__module__, "stillmain.book")
        self.assertIs(module.Book, Book)
        for method in ("bring", "answers", "works", "works_at"):
            self.assertIn(method, vars(Book))

    def test_what_is_told_is_of_pythons_own_kinds(self):
        book = book_of((5, 1, "add_room p"), (5, 2, "add_room p"))
        told = book.bring(1, 3, ("add_room", "p"))
        self.assertEqual(told, [1])
        self.assertEqual([type(told), type(told[0])], [list, int])
        self.assertIs(type(book.answers()), list)
        for answer in book.answers():
            self.assertEqual([type(one) for one in answer], [int, int, tuple])
        self.assertIs(type(book.works()), Works)
        self.assertIs(type(book.works_at(5)), Works)

    def test_nothing_at_first(self):
        book = Book()
        self.assertEqual(book.answers(), [])
        self.assertEqual(all_told_of_works(book.works()), all_told_of_works(Works()))
        for time in (0, 7, LAST):
            self.assertEqual(all_told_of_works(book.works_at(time)), all_told_of_works(Works()))

    def test_two_books_know_nothing_of_one_another(self):
        one, other = Book(), Book()
        one.bring(1, 1, ("add_room", "p"))
        self.assertEqual(other.answers(), [])
        self.assertEqual(other.bring(1, 1, ("add_room", "q")), [])
        self.assertEqual(one.works().layout().rooms(), ["p"])


class OrderTest(BookTest):
    def test_in_the_order_of_times_and_then_of_numbers(self):
        book = Book()
        for time, number, row in (
                (9, 1, "add_room p"), (5, 8, "add_room p"), (5, 10, "take_room p"), (5, 9, "add_room q"),
                (0, 30, "take_room q"), (10, 0, "add_room q")):
            book.bring(time, number, deed_of(row))
        self.assertEqual(book.answers(), [
            (0, 30, ("refused", "Lacks", ["q"])), (5, 8, ("done", None)), (5, 9, ("done", None)),
            (5, 10, ("done", None)), (9, 1, ("done", None)), (10, 0, ("refused", "There", ["q"]))])
        self.assertEqual(book.works().layout().rooms(), ["p", "q"])

    def test_numbers_are_ordered_as_numbers(self):
        book = book_of((1, 10, "take_room p"), (1, 9, "add_room p"), (1, 100, "add_room p"), (10, 1, "take_room p"),
                       (9, 2, "add_room q"))
        self.assertEqual([number for _, number, _ in book.answers()], [9, 10, 100, 2, 1])

    def test_a_refused_one_counts_for_nothing(self):
        book = book_of((1, 1, "add_room p"), (2, 2, "add_room p"), (3, 3, "take_line a"), (4, 4, "take_room p"))
        self.assertEqual([answer[0] for _, _, answer in book.answers()], ["done", "refused", "refused", "done"])
        self.assertEqual(all_told_of_works(book.works()), all_told_of_works(Works()))

    def test_every_order_of_a_few(self):
        papers = [(3, 4, "add_room p"), (3, 2, "add_room q"), (5, 9, "add_line a p q 4"), (5, 7, "add_source p"),
                  (5, 8, "turn a shut"), (1, 5, "take_room q")]
        due = [(time, number, deed_of(row)) for time, number, row in papers]
        for order in itertools.permutations(papers):
            self.assert_tells(book_of(*order), due)

    def test_orders_by_chance(self):
        papers = small_papers()
        due = [(time, number, deed_of(row)) for time, number, row in papers]
        told = told_of_book(book_of(*papers))
        self.assertEqual({answer[0] for _, _, answer in told["answers"]}, {"done"})
        for seed in range(12):
            book = book_of(*random.Random(seed).sample(papers, len(papers)))
            self.assert_tells(book, due)
            self.assertEqual(told_of_book(book), told)


class BringTest(BookTest):
    def test_whose_answer_is_another_one_now(self):
        book = Book()
        self.assertEqual(brought(
            book, (10, 1, "add_room p"), (20, 2, "take_room p"), (30, 3, "add_room p"), (40, 4, "add_source p")),
            [[], [], [], []])
        # What comes in between makes others of those behind it alone.
        self.assertEqual(brought(book, (15, 5, "add_drain u p")), [[2, 3]])
        self.assertEqual([answer for _, _, answer in book.answers()], [
            ("done", None), ("done", None), ("refused", "InUse", ["p"]), ("refused", "There", ["p"]), ("done", None)])
        # And back again.
        self.assertEqual(brought(book, (16, 6, "take_drain u")), [[2, 3]])
        self.assertEqual(brought(book, (5, 7, "add_room p")), [[1]])
        self.assertEqual(brought(book, (50, 8, "add_room p")), [[]])

    def test_in_the_order_of_times_and_numbers_and_not_of_their_coming(self):
        book = book_of((7, 30, "stick a"), (8, 1, "mend a"), (7, 20, "turn a shut"), (9, 0, "stick a"))
        self.assertEqual(
            brought(book, (1, 99, "add_room p"), (1, 98, "add_room q"), (1, 100, "add_line a p q 1")),
            [[], [], [20, 30, 1, 0]])

    def test_other_things_of_the_same_word_are_another_answer(self):
        book = book_of((1, 1, "add_room p"), (1, 2, "add_room q"), (5, 5, "add_line a z y 1"),
                       (6, 6, "add_line b y z 1"))
        self.assertEqual(book.answers()[2][2], ("refused", "Lacks", ["z"]))
        # Both were refused, and are so now, but one of them for another room.
        self.assertEqual(brought(book, (4, 4, "add_room z")), [[5]])
        self.assertEqual(book.answers()[3][2], ("refused", "Lacks", ["y"]))
        self.assertEqual(book.answers()[4][2], ("refused", "Lacks", ["y"]))

    def test_a_step_that_is_another_one(self):
        book = book_of(*small_papers())
        due = {number: answer for _, number, answer in book.answers()}
        self.assertEqual((due[18], due[19], due[20]), (
            ("done", ("c", "shut")), ("done", ("d", "shut")), ("done", ("u", "open"))))
        self.assertEqual(brought(book, (160, 99, "add_line bb p r 9")), [[18, 19, 20, 21]])
        self.assertEqual([answer for _, number, answer in book.answers() if number in (18, 19, 20, 21)], [
            ("done", ("bb", "shut")), ("done", ("c", "shut")), ("done", ("d", "shut")), ("refused", "NotNow", ["jo"])])

    def test_the_one_that_is_brought_is_never_among_them(self):
        book = book_of((1, 1, "add_room p"))
        self.assertEqual(brought(book, (0, 2, "add_room p")), [[1]])
        self.assertEqual(brought(book, (0, 3, "add_room p"), (0, 1000, "take_room p")), [[], [1]])

    def test_one_brought_again_alike(self):
        papers = ((10, 1, "add_room p"), (5, 2, "ask jo ann p q"), (7, 3, "add_line a p q 0"), (1, 4, "add_room p"))
        book = book_of(*papers)
        ahead = told_of_book(book)
        for paper in papers:
            for _ in range(2):
                self.assertEqual(brought(book, paper), [[]])
                self.assertEqual(told_of_book(book), ahead)

    def test_known(self):
        book = book_of((10, 1, "add_room p"), (5, 2, "ask jo ann p q"), (7, 3, "add_line a p q 7"))
        for time, number, row in (
                (11, 1, "add_room p"), (9, 1, "add_room p"), (0, 1, "add_room p"), (10, 1, "add_room q"),
                (10, 1, "take_room p"), (11, 1, "add_room q"), (5, 2, "ask jo ann q p"), (5, 2, "ask jo ann p"),
                (5, 2, "ask jo ann p q r"), (7, 3, "add_line a q p 7"), (7, 3, "add_line a p q 8"), (7, 3, "step jo")):
            self.assert_not_brought(book, (Known, number), time, number, deed_of(row))
        # The same time and deed under another number is a paper of its own.
        self.assertEqual(brought(book, (10, 9, "add_room p")), [[]])
        self.assertEqual(len(book.answers()), 4)

    def test_at_a_full_book(self):
        book = full_book()
        self.assertEqual(len(book.answers()), 60)
        self.assert_not_brought(book, (TooMany, 60), 0, 0, ("add_room", "p"))
        self.assert_not_brought(book, (TooMany, 60), LAST, LAST, ("add_room", "p"))
        # Of those that are kept all goes on as ever.
        ahead = told_of_book(book)
        self.assertEqual(book.bring(1000 + 7 % 7, 107, ("add_room", "nh")), [])
        self.assertEqual(book.bring(1000, 100, fitting_deed("step")), [])
        self.assertEqual(told_of_book(book), ahead)
        self.assert_not_brought(book, (Known, 107), 1001, 107, ("add_room", "nh"))
        self.assert_not_brought(book, (Known, 107), 1000, 107, ("add_room", "ng"))
        self.assert_not_brought(book, (Known, 100), 1000, 100, ("add_room", "p"))

    def test_the_sixtieth_is_let_in(self):
        book = Book()
        for at in range(60):
            self.assertEqual(len(book.answers()), at)
            self.assertEqual(book.bring(60 - at, at, ("stick", "a")), [])
        self.assert_not_brought(book, (TooMany, 60), 7, 60, ("stick", "a"))

    def test_each_deed(self):
        book, papers = Book(), []
        for at, (deed, _) in enumerate(DEEDS_AND_TEXTS):
            papers.append((100 - at, at, deed))
            book.bring(100 - at, at, deed)
            self.assert_tells(book, papers)
            self.assertEqual(book.bring(100 - at, at, copy.deepcopy(deed)), [])

    def test_times_and_numbers_at_their_ends(self):
        book = book_of((LAST, 1, "add_room p"), (0, LAST, "add_room p"), (0, 0, "add_room q"),
                       (LAST, LAST - 1, "take_room q"))
        self.assertEqual(
            [(time, number) for time, number, _ in book.answers()], [(0, 0), (0, LAST), (LAST, 1), (LAST, LAST - 1)])
        self.assertEqual(book.works().layout().rooms(), ["p"])


class WorksTest(BookTest):
    def test_at_each_time(self):
        papers = [(0, 3, "add_room p"), (5, 1, "add_room q"), (5, 2, "add_line a p q 3"), (8, 0, "add_source p"),
                  (LAST, 7, "turn a shut")]
        book = book_of(*papers)
        for time in (0, 1, 4, 5, 6, 7, 8, 9, LAST - 1, LAST):
            due = works_of(*[row for at, _, row in papers if at <= time])
            self.assertEqual(all_told_of_works(book.works_at(time)), all_told_of_works(due), time)
        self.assertEqual(all_told_of_works(book.works_at(LAST)), all_told_of_works(book.works()))

    def test_one_below_at_and_above(self):
        book = book_of((5, 1, "add_room p"))
        self.assertEqual([book.works_at(time).layout().rooms() for time in (4, 5, 6)], [[], ["p"], ["p"]])

    def test_a_works_that_is_told_is_the_askers_own(self):
        book = book_of(*small_papers())
        ahead = told_of_book(book)
        for works in (book.works(), book.works_at(LAST), book.works_at(165)):
            done(works, "add_room z", "stick a")
            called(works, "end jo")
            self.assertEqual(told_of_book(book), ahead)
            self.assertEqual(all_told_of_works(book.works_at(LAST)), ahead["works"])
        self.assertIsNot(book.works(), book.works())

    def test_works_that_were_told_stay_when_papers_come(self):
        book = book_of(*small_papers())
        works = book.works()
        ahead = all_told_of_works(works)
        brought(book, (0, 77, "add_room z"))
        self.assertEqual(all_told_of_works(works), ahead)
        self.assertIn("z", book.works().layout().rooms())


class ListsTest(BookTest):
    def test_a_deeds_list_is_changed_behind_the_call(self):
        book = book_of((1, 1, "add_room p"), (2, 2, "add_room q"))
        rooms = ["p", "q"]
        deed = ("ask", "jo", "ann", rooms)
        book.bring(3, 3, deed)
        ahead = told_of_book(book)
        self.assertEqual(rooms, ["p", "q"])
        rooms.append("z")
        self.assertEqual(told_of_book(book), ahead)
        self.assert_not_brought(book, (Known, 3), 3, 3, deed)
        rooms.pop()
        self.assertEqual(book.bring(3, 3, deed), [])
        self.assertEqual(book.works().stretch("jo"), ["p", "q"])

    def test_the_list_of_one_brought_again_too(self):
        book = book_of((1, 1, "add_room p"))
        one, other = ["p"], ["p"]
        book.bring(3, 3, ("ask", "jo", "ann", one))
        book.bring(3, 3, ("ask", "jo", "ann", other))
        one.append("z")
        other.append("z")
        self.assertEqual(book.works().stretch("jo"), ["p"])

    def test_answers_that_are_told_are_the_askers_own(self):
        book = book_of((1, 1, "add_room p"), (2, 2, "add_room p"), (3, 3, "take_room z"))
        ahead = kept(told_of_book(book))
        told = book.answers()
        for _, _, answer in told:
            if answer[0] == "refused":
                answer[2].append("zz")
        told.clear()
        self.assertEqual(told_of_book(book), ahead)
        changed = book.bring(0, 9, ("add_room", "p"))
        self.assertEqual(changed, [1])
        changed.append(5)
        self.assertEqual([number for _, number, _ in book.answers()], [9, 1, 2, 3])
        self.assertEqual(book.bring(0, 9, ("add_room", "p")), [])

    def test_asking_changes_nothing(self):
        for book in (Book(), book_of(*small_papers()), full_book()):
            self.assertEqual(told_of_book(book), told_of_book(book))


class ChanceTest(BookTest):
    def test_papers_by_chance(self):
        changed = 0
        for seed in range(8):
            chance = random.Random(seed)
            pool, book, papers = Pool(4, 5, 2, 2, 3), Book(), []
            deeds = pool.layout_deeds(chance, 4, 2)[:-1]
            for _ in range(55):
                works = plain_works(papers)
                deed = deeds.pop(0) if deeds and chance.random() < 0.5 else pool.deed(chance, works)
                time, number = chance.randint(len(papers) // 2, 40), chance.randint(0, 10 ** 6)
                if number in [other for _, other, _ in papers]:
                    continue
                ahead = plain_answers(papers)
                papers.append((time, number, copy.deepcopy(deed)))
                now = {other: answer for _, other, answer in plain_answers(papers)}
                due = [other for _, other, answer in ahead if now[other] != answer]
                self.assertEqual(book.bring(time, number, deed), due)
                changed += len(due)
                self.assert_tells(book, papers)
                at = chance.randint(0, 45)
                self.assertEqual(
                    all_told_of_works(book.works_at(at)),
                    all_told_of_works(plain_works([paper for paper in papers if paper[0] <= at])))
            beside = Book()
            for paper in chance.sample(papers, len(papers)):
                beside.bring(*paper)
            self.assertEqual(told_of_book(beside), told_of_book(book))
        self.assertGreater(changed, 20)


class DoorsTest(BookTest):
    def not_times(self):
        numbers = [number for number in whole_numbers() if not 0 <= number <= LAST]
        return strange_things() + odd_texts()[:60] + numbers + name_lists() + ["a", "1", "0"]

    def test_one_thing_wrong(self):
        for book in (Book(), book_of((1, 1, "add_room p"), (2, 2, "add_room p"))):
            for thing in self.not_times():
                self.assert_not_brought(book, (Wrong, 0), thing, 1, ("add_room", "p"))
                self.assert_not_brought(book, (Wrong, 1), 1, thing, ("add_room", "p"))
                self.assert_refused(lambda: told_of_book(book), (Wrong, 0), book.works_at, thing)
            for thing in spoilt_deeds()[::5] + not_deeds()[::9] + [DEEDS_AND_TEXTS[0][1]]:
                self.assert_not_brought(book, (Wrong, 2), 1, 1, thing)

    def test_several_things_wrong(self):
        book = book_of((1, 1, "add_room p"))
        some = (None, True, -1, LAST + 1, "1", "add_room p", [], ("add_room", "P"))
        for one in some:
            for other in some:
                self.assert_not_brought(book, (Wrong, 0), one, other, ("add_room", "p"))
                self.assert_not_brought(book, (Wrong, 0), one, 1, other)
                self.assert_not_brought(book, (Wrong, 1), 1, one, other)
                self.assert_not_brought(book, (Wrong, 0), one, other, one)

    def test_wrong_goes_ahead_of_all_else(self):
        book = full_book()
        self.assert_not_brought(book, (Wrong, 2), 1, 107, ("add_room", "P"))
        self.assert_not_brought(book, (Wrong, 0), True, 107, ("add_room", "p"))
        self.assert_not_brought(book, (Wrong, 1), 1, LAST + 1, ("add_room", "p"))
        self.assert_not_brought(book, (TooMany, 60), 1, LAST, ("add_room", "p"))

    def test_each_word_is_a_deed_here(self):
        book = Book()
        for at, word in enumerate(WANTED):
            book.bring(at, at, fitting_deed(word))
        self.assertEqual(len(book.answers()), 23)


if __name__ == "__main__":
    unittest.main()
