"""What can be seen of a book, a plain one too, and what the tests of books have in common."""

import copy
import unittest

import oracle_asks
from oracle import PlainBook
from wayhold import asks, company, errors, notes
from wayhold.book import Book

NAMES = ("j0", "j1", "j2", "j3", "j4", "j5", "j6", "j7", "j8", "j9", "j10", "j11", "nobody")
OF_A_RUN = ("told", "goes", "reports", "free")
OF_A_JOURNEY = ("ends", "legs", "rides_of", "fault", "stands", "spares", "times", "beds_anew", "beds_idle")
OF_A_MOMENT = ("behind", "anew")
OF_TWO = ("common", "stretches", "meetings")


def answer(ask, *args):
    """What is answered, or the refusal with its fields."""
    try:
        return ("told", ask(*args))
    except errors.WayError as error:
        return ("refused", type(error).__name__, vars(error))


def question(book, name):
    """A question of asks, company or notes by its name; of a plain book the one that goes by the words."""
    if isinstance(book, PlainBook):
        return getattr(oracle_asks, name)
    return next(getattr(module, name) for module in (asks, company, notes) if name in vars(module))


def deeds_to_come(book):
    """What redo would do, one behind the other, asked of a twin."""
    if isinstance(book, PlainBook):
        return book.to_redo()
    twin, found = book.twin(), []
    while True:
        try:
            found.append(twin.redo())
        except errors.NoDeed:
            return found


def asked(names, moments, places):
    """The questions of asks, company and notes that are asked of a book, each with what is handed in."""
    found = [("places",), ("journeys",), ("book_rows",)] + [("clock", place) for place in places]
    for name in names:
        found += [(ask, name) for ask in OF_A_JOURNEY]
        found += [(ask, name, moment) for ask in OF_A_MOMENT for moment in moments]
        found += [(ask, name, other) for ask in OF_TWO for other in names]
    return found


def seen(book, names=NAMES, moments=(), stamps=(-1, 0, 1), places=("a", "b", "c", "d", "e", "")):
    """All that the questions tell, but for papers, of which any that holds may be told; the log is the third."""
    found = [("many", book.many()), ("spans", book.spans()), ("log", book.log())]
    for run in range(book.many()):
        found += [(ask, run, getattr(book, ask)(run)) for ask in OF_A_RUN]
        found += [("known", run, stamp, book.known(run, stamp)) for stamp in stamps]
    for name in names:
        found += [(ask, name, answer(getattr(book, ask), name)) for ask in ("shared", "beds", "wanted")]
        found += [("mended", name, moment, answer(book.mended, name, moment)) for moment in moments]
    for ask, *args in asked(names, moments, places):
        found.append((ask, args, answer(question(book, ask), book, *args)))
    return found


def whole(book):
    """All that can be seen of a book, of any names in it, and what can be done again."""
    names = {deed[1] for deed in book.log() if deed[0] == "journey"} | set(asks.journeys(book)) | {"nobody"}
    return seen(book, sorted(names), (-50000, 0, 110)), deeds_to_come(book)


def spoil(told):
    """Changes all that can be changed of what was told."""
    if isinstance(told, (list, tuple)):
        for part in told:
            spoil(part)
    if isinstance(told, list):
        told[:] = ["other"] + told[1:] + ["more"]
    if isinstance(told, dict):
        told.clear()
        told["more"] = 7


class BookCase(unittest.TestCase):
    def refused(self, error, deed, *args, **fields):
        """The very refusal, with its fields; nothing has changed by it."""
        book = getattr(deed, "__self__", None) or args[0]
        before = whole(book)
        with self.assertRaises(error) as caught:
            deed(*args)
        self.assertIs(type(caught.exception), error, (deed.__name__, args))
        self.assertIsInstance(caught.exception, errors.WayError)
        self.assertEqual(vars(caught.exception), fields)
        self.assertEqual(whole(book), before)

    def unchanged(self, ask, *args):
        """What a question tells; nothing has changed by it, nor by changing what it told."""
        book = getattr(ask, "__self__", None) or args[0]
        before = whole(book)
        told = ask(*args)
        kept = copy.deepcopy(told)
        self.assertEqual(whole(book), before)
        spoil(told)
        self.assertEqual(ask(*args), kept)
        self.assertEqual(whole(book), before)
        return kept


def do(book, deed):
    """Does a deed as the log tells it."""
    return getattr(book, deed[0])(*[list(part) if isinstance(part, tuple) else part for part in deed[1:]])


def done(deeds):
    book = Book()
    for deed in deeds:
        do(book, deed)
    return book


def four_places(book):
    """a, b, c and d: d's clock goes with the one for all, b's is ahead, c's is behind; changes take 5, 10, 0, 0."""
    for name, ahead, span in (("a", 0, 5), ("b", 60, 10), ("c", -60, 0), ("d", 0, 0)):
        book.place(name, ahead, span)
    return book


RUNS_TO_MEND = (
    ("a", "b", 0, 100, 9),        # 0
    ("b", "c", 110, 200, 9),      # 1
    ("c", "d", 210, 300, 9),      # 2
    ("b", "c", 130, 220, 9),      # 3: behind it 4 alone
    ("c", "d", 230, 320, 9),      # 4
    ("a", "d", 150, 400, 1),      # 5
    ("b", "d", 150, 500, 1),      # 6
    ("b", "c", 110, 190, 1),      # 7: instead of 1
)


def book_to_mend(*gone):
    """The journey x by 0, 1, 2, and the runs told gone behind its booking."""
    book = four_places(Book())
    for row in RUNS_TO_MEND:
        book.run(*row)
    book.journey("x", "a", "d", [0, 1, 2])
    for run in gone:
        book.news(run, 0, "gone", 0)
    return book


def night_book():
    """Waits over nights at b, whose clock is 60 ahead, and at c, whose clock is 60 behind."""
    book = four_places(Book())
    for row in (("a", "b", 0, 100, 9), ("b", "c", 2819, 2900, 9), ("c", "d", 4380, 4400, 9), ("b", "c", 2820, 2900, 9)):
        book.run(*row)
    book.journey("x", "a", "d", [0, 1, 2])
    return book
