"""Points [1] and [17]: the log, undo, redo and twins."""

import unittest

from cases import BookCase, deeds_to_come, do, done, four_places, seen, whole
from wayhold.book import Book
from wayhold.errors import NoDeed, NoJourney, NoShare, NoWay, Taken, WayError

# Each kind of deed at least once, all let in this order.
DEEDS = (
    ("place", "a", 0, 5), ("place", "b", 60, 10), ("place", "c", -60, 0),
    ("run", "a", "b", 0, 100, 3), ("run", "b", "c", 1500, 1600, 3), ("run", "b", "c", 1400, 1450, 2),
    ("run", "a", "c", 10, 2000, 2),
    ("journey", "x", "a", "c", (0, 1)), ("journey", "y", "a", "c", (0, 1)), ("journey", "z", "a", "a", ()),
    ("share", "y", "x", 0), ("share", "x", "y", 1),
    ("bed", "x", "a", -4), ("bed", "x", "c", 9), ("bed", "y", "c", 9),
    ("settle", "x"), ("unbed", "x", "b", 0), ("bed", "x", "b", 5),
    ("news", 1, 7, "gone", 0), ("news", 1, -7, "slip", 50),
    ("mend", "x", 0), ("turn", "y", (0, 2)), ("unshare", "x", "y", 0),
    ("news", 2, 0, "slip", 20000), ("mend", "y", 5), ("settle", "y"),
    ("drop", "x"), ("journey", "x", "a", "c", (3,)), ("drop", "z"), ("run", "c", "a", 5, 6, 1), ("turn", "x", (3,)),
)
KINDS = {"place", "run", "news", "journey", "turn", "drop", "share", "unshare", "bed", "unbed", "settle", "mend"}


class LogTests(BookCase):
    def test_each_kind_of_deed_is_there(self):
        self.assertEqual({deed[0] for deed in DEEDS}, KINDS)

    def test_deeds_as_they_were_handed_in(self):
        book = Book()
        self.assertEqual(self.unchanged(book.log), [])
        for at, deed in enumerate(DEEDS):
            do(book, deed)
            self.assertEqual(book.log(), list(DEEDS[:at + 1]))
        self.assertEqual(self.unchanged(book.log), list(DEEDS))
        for deed in book.log():
            self.assertIs(type(deed), tuple)
            self.assertFalse(any(isinstance(part, list) for part in deed))

    def test_what_is_let_is_kept_though_it_changes_nothing(self):
        book = done(DEEDS)
        before = seen(book, ("x", "y"), (0,))[3:]
        book.turn("x", [3])
        book.settle("x")
        book.mend("x", 17)
        self.assertEqual(book.log()[-3:], [("turn", "x", (3,)), ("settle", "x"), ("mend", "x", 17)])
        self.assertEqual(seen(book, ("x", "y"), (0,))[3:], before)
        for deed in (("mend", "x", 17), ("settle", "x"), ("turn", "x", (3,))):
            self.assertEqual(book.undo(), deed)

    def test_refused_deeds_are_not_in_it(self):
        book = done(DEEDS)
        for deed in (("place", "a", 0, 0), ("run", "a", "a", 0, 1, 1), ("news", 1, 7, "on", 0), ("drop", "z"),
                     ("journey", "x", "a", "a", ()), ("turn", "x", (0,)), ("share", "x", "y", 0), ("mend", "w", 0),
                     ("unshare", "x", "y", 0), ("bed", "x", "e", 0), ("unbed", "x", "a", 0), ("settle", "z")):
            with self.assertRaises(WayError):
                do(book, deed)
            self.assertEqual(book.log(), list(DEEDS))


class UndoTests(BookCase):
    def test_each_deed_taken_back_and_done_again(self):
        book = Book()
        for deed in DEEDS:
            before = whole(book)
            self.assertEqual(before[1], [])
            do(book, deed)
            behind = whole(book)
            self.assertEqual(book.undo(), deed)
            self.assertEqual(whole(book), (before[0], [deed]))
            self.assertEqual(book.redo(), deed)
            self.assertEqual(whole(book), behind)

    def test_all_the_way_back_and_there_again(self):
        book = Book()
        steps = [whole(book)[0]]
        for deed in DEEDS:
            do(book, deed)
            steps.append(whole(book)[0])
        for turn in range(2):
            for at in range(len(DEEDS) - 1, -1, -1):
                self.assertEqual(book.undo(), DEEDS[at])
                self.assertEqual(whole(book), (steps[at], list(DEEDS[at:])))
            self.refused(NoDeed, book.undo)
            for at in range(len(DEEDS)):
                self.assertEqual(book.redo(), DEEDS[at])
                self.assertEqual(whole(book), (steps[at + 1], list(DEEDS[at + 1:])))
            self.refused(NoDeed, book.redo)

    def test_an_empty_book_has_nothing_to_take_back_or_do_again(self):
        book = Book()
        self.refused(NoDeed, book.undo)
        self.refused(NoDeed, book.redo)
        book.place("a", 0, 0)
        self.refused(NoDeed, book.redo)
        book.undo()
        self.refused(NoDeed, book.undo)
        self.assertEqual((book.spans(), book.log()), ({}, []))

    def test_a_deed_that_is_let_leaves_nothing_to_do_again(self):
        for deed in (("place", "e", 0, 0), ("news", 0, 99, "on", 0), ("settle", "x"), ("mend", "x", 3), ("drop", "y"),
                     ("turn", "x", (3,)), ("run", "a", "b", 0, 1, 1), ("journey", "w", "b", "b", ()),
                     ("bed", "y", "a", 7)):
            book = done(DEEDS)
            book.undo()
            book.undo()
            do(book, deed)
            self.refused(NoDeed, book.redo)
            self.assertEqual(book.log(), list(DEEDS[:-2]) + [deed])
            self.assertEqual(book.undo(), deed)
            self.assertEqual(whole(book)[0], whole(done(DEEDS[:-2]))[0])
            self.assertEqual(deeds_to_come(book), [deed])

    def test_a_refused_deed_and_a_question_leave_it(self):
        book = done(DEEDS)
        for turn in range(3):
            book.undo()
        self.refused(Taken, book.place, "a", 0, 0)
        self.refused(NoJourney, book.drop, "w")
        self.refused(NoShare, book.unshare, "x", "y", 3)
        for ask in (book.many, book.spans, book.log, book.twin):
            ask()
        for ask in (book.told, book.goes, book.reports, book.free):
            ask(0)
        for ask in (book.shared, book.beds, book.wanted):
            ask("x")
        book.known(0, 0)
        book.mended("x", 0)
        self.assertEqual([book.redo() for turn in range(3)], list(DEEDS[-3:]))
        self.assertEqual(whole(book), whole(done(DEEDS)))

    def test_a_mend_done_again_after_it_was_taken_back(self):
        book = done(DEEDS[:20])
        twin = book.twin()
        legs = book.mend("x", 0)
        self.assertEqual(book.undo(), ("mend", "x", 0))
        self.assertEqual(whole(book)[0], whole(twin)[0])
        self.assertEqual(book.shared("x"), [("y", 0), ("y", 1)])
        book.redo()
        self.assertEqual((book.mended("x", 0), book.shared("x")), (legs, [("y", 0)]))
        self.refused(NoWay, book.mend, "y", 1500)

    def test_a_run_taken_back_gives_its_number_free(self):
        book = four_places(Book())
        self.assertEqual(book.run("a", "b", 0, 1, 1), 0)
        book.undo()
        self.assertEqual(book.many(), 0)
        self.assertEqual(book.run("b", "a", 0, 1, 1), 0)
        self.assertEqual(book.told(0), ("b", "a", 0, 1, 1))

    def test_told_lists_change_nothing(self):
        book = done(DEEDS)
        book.log().clear()
        self.assertEqual(book.undo(), DEEDS[-1])


class TwinTests(BookCase):
    def test_a_twin_is_as_the_book_is(self):
        book = Book()
        for deed in DEEDS:
            do(book, deed)
            self.assertIs(type(book.twin()), Book)
            self.assertEqual(whole(book.twin()), whole(book))
        for turn in range(len(DEEDS)):
            book.undo()
            self.assertEqual(whole(book.twin()), whole(book))

    def test_a_twin_can_undo_and_redo(self):
        book = done(DEEDS)
        for turn in range(12):
            book.undo()
        twin = book.twin()
        self.assertEqual([twin.redo() for turn in range(12)], list(DEEDS[-12:]))
        self.assertEqual(whole(twin), whole(done(DEEDS)))
        self.assertEqual([twin.undo() for turn in DEEDS], list(DEEDS[::-1]))
        self.refused(NoDeed, twin.undo)
        self.assertEqual(whole(book)[0], whole(done(DEEDS[:-12]))[0])
        self.assertEqual(deeds_to_come(book), list(DEEDS[-12:]))

    def test_nothing_that_either_does_changes_the_other(self):
        for at in range(len(DEEDS) - 1):
            book = done(DEEDS[:at + 1])
            twin = book.twin()
            as_it_was = whole(book)
            do(twin, DEEDS[at + 1])
            self.assertEqual(whole(book), as_it_was)
            twin.undo()
            twin.undo()
            self.assertEqual(whole(book), as_it_was)
            twin_was = whole(twin)
            do(book, DEEDS[at + 1])
            self.assertEqual(whole(twin), twin_was)
            book.undo()
            book.undo()
            self.assertEqual(whole(twin), twin_was)
            twin.redo()
            twin.redo()
            self.assertEqual(whole(book)[0], whole(done(DEEDS[:at]))[0])

    def test_a_deed_leaves_what_the_other_can_do_again(self):
        book = done(DEEDS)
        book.undo()
        twin = book.twin()
        twin.place("e", 0, 0)
        self.refused(NoDeed, twin.redo)
        self.assertEqual(book.redo(), DEEDS[-1])

    def test_two_books_share_nothing(self):
        one, other = Book(), Book()
        four_places(one)
        self.assertEqual((other.spans(), other.log(), other.many()), ({}, [], 0))
        self.refused(NoDeed, other.undo)
        other.place("a", 7, 8)
        self.assertEqual(other.spans(), {"a": 8})
        self.assertEqual(one.spans(), {"a": 5, "b": 10, "c": 0, "d": 0})


if __name__ == "__main__":
    unittest.main()
