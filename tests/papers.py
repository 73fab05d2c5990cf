"""Papers to bring, and a plain book beside the program's."""

from deedlists import fitting_deed
from stillmain.book import Book
from stillmain.deeds import answer_to
from stillmain.works import Works
from workses import SMALL, all_told_of_works

FIGURES = "0123456789"


def deed_of(row):
    """The deed that a row writes, told apart here."""
    word, *rest = row.split(" ")
    if word == "ask":
        return (word, rest[0], rest[1], rest[2:])
    return (word,) + tuple(int(one) if one[0] in FIGURES else one for one in rest)


def brought(book, *papers):
    """Bring papers (time, number, row); tell what each tells."""
    return [book.bring(time, number, deed_of(row)) for time, number, row in papers]


def book_of(*papers):
    book = Book()
    brought(book, *papers)
    return book


def plain_answers(papers):
    """The answers to papers (time, number, deed), in their order."""
    works = Works()
    return [(time, number, answer_to(works, deed)) for time, number, deed in sorted(papers, key=lambda one: one[:2])]


def plain_works(papers):
    works = Works()
    for _, _, deed in sorted(papers, key=lambda one: one[:2]):
        answer_to(works, deed)
    return works


def told_of_book(book):
    """All that a book tells of its papers as a whole."""
    return {"answers": book.answers(), "works": all_told_of_works(book.works())}


def small_papers():
    """A small works, and a job that is begun, stepped and given in it, each paper at a time of its own."""
    rows = SMALL + ("ask jo ann r", "begin jo", "step jo", "step jo", "step jo", "give jo")
    return [(10 * at, at, row) for at, row in enumerate(rows)]


def full_book():
    """A book of sixty papers, at times 1000 and on, each of its own number."""
    book = Book()
    for at in range(60):
        book.bring(1000 + at % 7, 100 + at, ("add_room", "n" + "abcdefgh"[at % 8]) if at % 3 else fitting_deed("step"))
    return book
