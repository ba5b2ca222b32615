"""Point [18]: the rows of a book, and books that are read out of rows."""

import unittest

from cases import BookCase, deeds_to_come, do, done, seen, whole
from drawn import NAMES, BothCase
from oracle_asks import plain_of
from wayhold.asks import barred, fault, journeys, legs, stands
from wayhold.book import Book
from wayhold.errors import Broken, NoDeed, NoJourney, Taken
from wayhold.notes import book_rows, read_book

SIXTY = 10 ** 60 - 1

# Deeds in an order of their own, and the rows that they leave.
DEEDS = (
    ("place", "b", 900, 1000), ("place", "a0", -900, 0), ("place", "c", -60, 0), ("place", "a", 0, 5),
    ("run", "b", "c", 2000, 2100, 7), ("run", "a", "b", 0, 100, 3), ("run", "a", "b", -40000, -39999, 1),
    ("run", "c", "a0", 39999, 40000, SIXTY), ("run", "a", "b", 0, 100, 3), ("run", "c", "b", 2200, 2300, 2),
    ("run", "c", "b", 2200, 2300, 2), ("run", "c", "b", 2200, 2300, 2), ("run", "c", "b", 2200, 2300, 2),
    ("run", "c", "b", 2200, 2300, 2), ("run", "b", "a", 3300, 3400, 2),
    ("journey", "y", "a", "c", (1, 0)), ("journey", "9", "a", "a", (1, 0, 9, 10)),
    ("journey", "x", "b", "a", (0, 9, 10)), ("journey", "10", "c", "c", ()), ("journey", "b", "b", "c", (0,)),
    ("share", "y", "x", 0), ("share", "9", "y", 1), ("share", "y", "9", 0), ("share", "x", "9", 10),
    ("share", "9", "x", 9), ("share", "b", "9", 0),
    ("bed", "y", "c", 3), ("bed", "y", "c", -SIXTY), ("bed", "y", "c", 20), ("bed", "y", "a0", 7),
    ("bed", "10", "b", SIXTY), ("bed", "x", "a", 0), ("bed", "y", "c", -4),
    ("news", 10, 5, "on", 0), ("news", 2, 5, "gone", 0), ("news", 1, 9, "gone", 0), ("news", 1, 10, "slip", 20000),
    ("news", 1, -SIXTY, "slip", 0), ("news", 1, SIXTY, "on", 0), ("news", 1, -10, "slip", 7), ("news", 9, 0, "gone", 0),
)
ROWS = (
    "place a 0 5", "place a0 -900 0", "place b 900 1000", "place c -60 0",
    "run b c 2000 2100 7", "run a b 0 100 3", "run a b -40000 -39999 1",
    "run c a0 39999 40000 999999999999999999999999999999999999999999999999999999999999", "run a b 0 100 3",
    "run c b 2200 2300 2", "run c b 2200 2300 2", "run c b 2200 2300 2", "run c b 2200 2300 2", "run c b 2200 2300 2",
    "run b a 3300 3400 2",
    "news 1 -999999999999999999999999999999999999999999999999999999999999 slip 0", "news 1 -10 slip 7",
    "news 1 9 gone 0", "news 1 10 slip 20000",
    "news 1 999999999999999999999999999999999999999999999999999999999999 on 0",
    "news 2 5 gone 0", "news 9 0 gone 0", "news 10 5 on 0",
    "journey 10 c c", "journey 9 a a 1 0 9 10", "journey b b c 0", "journey x b a 0 9 10", "journey y a c 1 0",
    "share 9 b 0", "share 9 x 9", "share 9 x 10", "share 9 y 0", "share 9 y 1", "share x y 0",
    "bed 10 b 999999999999999999999999999999999999999999999999999999999999", "bed x a 0", "bed y a0 7",
    "bed y c -999999999999999999999999999999999999999999999999999999999999", "bed y c -4", "bed y c 3", "bed y c 20",
)


def answers(book):
    """All answers but the log."""
    found = seen(book, NAMES + ("10", "9", "b", "x", "y", "nobody"), (-41000, -1, 0, 1999, 2000, 50000))
    del found[2]
    return found


class WriteTests(BookCase):
    def test_an_empty_book_has_no_rows(self):
        self.assertEqual(self.unchanged(book_rows, Book()), [])

    def test_rows_of_each_kind_in_their_order(self):
        book = done(DEEDS)
        self.assertEqual(self.unchanged(book_rows, book), list(ROWS))
        self.assertTrue(all(type(row) is str for row in book_rows(book)))

    def test_rows_as_they_stand_behind_each_deed(self):
        book = done(DEEDS)
        twin = book.twin()
        for turn in range(8):
            book.undo()
        self.assertEqual(book_rows(book), [row for row in ROWS if not row.startswith("news")])
        for turn in range(8):
            book.redo()
        self.assertEqual(book_rows(book), list(ROWS))
        twin.drop("9")
        self.assertEqual(book_rows(twin), [row for row in ROWS if not row.startswith(("journey 9", "share 9"))])
        twin.drop("y")
        gone = ("journey 9", "share", "journey y", "bed y")
        self.assertEqual(book_rows(twin), [row for row in ROWS if not row.startswith(gone)])
        self.assertEqual(book_rows(book), list(ROWS))

    def test_numbers(self):
        book = Book()
        book.place("a", -1, 0)
        book.place("b", 10, 1000)
        for seats in (1, 10, 100, SIXTY):
            book.run("a", "b", -10, 0, seats)
        book.journey("x", "a", "a", [])
        for day in (0, -1, 1, -10, 10, -SIXTY, SIXTY):
            book.bed("x", "a", day)
        nines = "9" * 60
        self.assertEqual(book_rows(book), [
            "place a -1 0", "place b 10 1000", "run a b -10 0 1", "run a b -10 0 10", "run a b -10 0 100",
            "run a b -10 0 " + nines, "journey x a a", "bed x a -" + nines, "bed x a -10", "bed x a -1", "bed x a 0",
            "bed x a 1", "bed x a 10", "bed x a " + nines])

    def test_arguments_by_name(self):
        self.assertEqual(book_rows(book=read_book(rows=list(ROWS))), list(ROWS))


class ReadTests(BookCase):
    def test_no_rows_are_an_empty_book(self):
        book = read_book([])
        self.assertIs(type(book), Book)
        self.assertEqual(whole(book), whole(Book()))

    def test_the_same_rows_and_the_same_answers(self):
        book = read_book(list(ROWS))
        self.assertIs(type(book), Book)
        self.assertEqual(book_rows(book), list(ROWS))
        self.assertEqual(answers(book), answers(done(DEEDS)))

    def test_each_beginning_of_the_rows_is_a_book_too(self):
        for many in range(len(ROWS) + 1):
            self.assertEqual(book_rows(read_book(list(ROWS[:many]))), list(ROWS[:many]))

    def test_nothing_to_undo_or_redo(self):
        book = read_book(list(ROWS))
        self.assertEqual(self.unchanged(book.log), [])
        self.refused(NoDeed, book.undo)
        self.refused(NoDeed, book.redo)
        self.assertEqual(whole(book.twin()), whole(book))

    def test_the_list_stays_as_handed_in_and_is_not_kept(self):
        rows = list(ROWS)
        book = read_book(rows)
        self.assertEqual(rows, list(ROWS))
        rows[:] = ["no row"]
        self.assertEqual(book_rows(book), list(ROWS))

    def test_two_books_of_one_list_share_nothing(self):
        rows = list(ROWS)
        one, other = read_book(rows), read_book(rows)
        one.drop("x")
        one.news(0, 0, "gone", 0)
        self.assertEqual(book_rows(other), list(ROWS))
        self.assertEqual(other.log(), [])

    def test_deeds_behind_it_are_undone_and_redone(self):
        deeds = (
            ("place", "d", 1, 2), ("run", "a", "d", 5, 6, 1), ("news", 0, 4, "slip", 3), ("bed", "x", "c", 2),
            ("journey", "z", "a", "d", (11,)), ("unshare", "y", "x", 0), ("unbed", "y", "c", 3), ("settle", "y"),
            ("drop", "y"), ("turn", "b", (0,)), ("mend", "b", 0), ("share", "b", "x", 0))
        book = read_book(list(ROWS))
        steps = [(answers(book), book_rows(book))]
        for at, deed in enumerate(deeds):
            do(book, deed)
            self.assertEqual(book.log(), list(deeds[:at + 1]))
            steps.append((answers(book), book_rows(book)))
        for at in range(len(deeds) - 1, -1, -1):
            self.assertEqual(book.undo(), deeds[at])
            self.assertEqual((answers(book), book_rows(book)), steps[at])
            self.assertEqual(deeds_to_come(book), list(deeds[at:]))
        self.refused(NoDeed, book.undo)
        for at, deed in enumerate(deeds):
            self.assertEqual(book.redo(), deed)
            self.assertEqual((answers(book), book_rows(book)), steps[at + 1])
        self.refused(NoDeed, book.redo)

    def test_deeds_are_refused_as_in_any_book(self):
        book = read_book(list(ROWS))
        self.refused(Taken, book.place, "a", 0, 0)
        self.refused(Taken, book.journey, "x", "a", "a", [])
        self.refused(NoJourney, book.drop, "z")
        self.refused(Broken, book.turn, "x", [0, 9, 10], at=1, word="gone")

    def test_a_journey_with_a_fault_is_read(self):
        rows = ["place a 0 5", "place b 0 10", "run a b 0 100 1", "run b a 109 200 1", "run b a 110 200 1"]
        for more, told in ((["news 0 0 gone 0", "journey x a a 0 2"], (0, "gone")),
                           (["news 2 0 gone 0", "journey x a a 0 2"], (1, "gone")),
                           (["news 0 0 slip 1", "journey x a a 0 2"], (1, "missed")),
                           (["journey x a a 0 1"], (1, "missed")), (["journey x b b 1 0"], (1, "missed")),
                           (["journey x a a 0 2"], None)):
            book = read_book(rows + more)
            self.assertEqual(book_rows(book), rows + more)
            self.assertEqual(fault(book, "x"), told)
            self.assertEqual(stands(book, "x"), legs(book, "x")[:told[0]] if told else legs(book, "x"))
        book = read_book(rows + ["journey x a a 0 1"])
        self.assertEqual(book.mend("x", 0), [0, 2])
        self.assertEqual(barred(read_book(rows + ["journey x a a 0 1"]), "x", 0), None)
        self.assertEqual(book_rows(book), rows + ["journey x a a 0 2"])
        book.undo()
        self.assertEqual(book_rows(book), rows + ["journey x a a 0 1"])

    def test_a_full_book(self):
        names = ["abcdefghij%02d" % at for at in range(12)]
        rows = ["place %s 900 1000" % name for name in names]
        rows += ["run %s %s -40000 40000 12" % (names[at % 12], names[(at + 1) % 12]) for at in range(40)]
        rows += ["news %d %d slip 20000" % (run, stamp) for run in range(40) for stamp in range(-25, 25)]
        rows += ["journey %s %s %s 3" % (name, names[3], names[4]) for name in names]
        rows += ["share %s %s 3" % (one, other) for one in names for other in names if one < other]
        rows += ["bed %s %s %d" % (name, place, day) for name in names for place in names for day in range(-9, 9)]
        book = read_book(rows)
        self.assertEqual(book_rows(book), rows)
        self.assertEqual((len(journeys(book)), book.many(), book.free(3)), (12, 40, 0))


class AnyRowsTests(BothCase):
    def test_any_book_s_rows_are_read_back(self):
        for seed in range(25):
            book, plain, draws = self.drawn(400 + seed, 9, 11, 60)
            rows = book_rows(book)
            read = read_book(rows)
            self.assertEqual(book_rows(read), rows)
            self.assertEqual(answers(read), answers(book))
            self.assert_alike(read, plain_of(rows), (draws.moment(), draws.moment()))


if __name__ == "__main__":
    unittest.main()
