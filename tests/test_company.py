"""Points [5] and [13]: runs that two journeys have, and waits that they have in common."""

import random
import unittest

from cases import BookCase
from wayhold.book import Book
from wayhold.company import common, meetings, stretches
from wayhold.errors import NoJourney

ALL = (common, stretches, meetings)


def ring_book():
    """Runs 0 to 5 round a, b, c; 6 to 8 stand beside 1, 2 and 4; 9 goes from a to c straight."""
    book = Book()
    for name in "abc":
        book.place(name, 0, 0)
    for at in range(6):
        book.run("abc"[at % 3], "abc"[(at + 1) % 3], 100 * at, 100 * at + 50, 9)
    for at in (1, 2, 4):
        book.run("abc"[at % 3], "abc"[(at + 1) % 3], 100 * at + 10, 100 * at + 50, 9)
    book.run("a", "c", 0, 150, 9)
    return book


class CommonTests(BookCase):
    def assert_common(self, book, runs, lists, one="x", other="y"):
        self.assertEqual(self.unchanged(common, book, one, other), runs)
        self.assertEqual(self.unchanged(stretches, book, one, other), lists)
        self.assertEqual([run for part in lists for run in part], runs)

    def test_one_journey_with_itself(self):
        book = ring_book()
        book.journey("x", "a", "a", [0, 1, 2, 3, 4, 5])
        book.journey("y", "a", "a", [])
        book.journey("z", "b", "c", [4])
        self.assert_common(book, [0, 1, 2, 3, 4, 5], [[0, 1, 2, 3, 4, 5]], "x", "x")
        self.assert_common(book, [], [], "y", "y")
        self.assert_common(book, [4], [[4]], "z", "z")

    def test_nothing_in_common(self):
        book = ring_book()
        book.journey("x", "a", "a", [0, 1, 2])
        book.journey("y", "a", "a", [])
        book.journey("z", "b", "a", [6, 7])
        for one, other in ("xy", "yx", "xz", "zx", "yz", "zy"):
            self.assert_common(book, [], [], one, other)

    def test_side_by_side_in_both(self):
        book = ring_book()
        book.journey("x", "a", "a", [0, 1, 2, 3, 4, 5])
        book.journey("y", "b", "c", [1, 2, 3, 8])
        self.assert_common(book, [1, 2, 3], [[1, 2, 3]])
        self.assert_common(book, [1, 2, 3], [[1, 2, 3]], "y", "x")
        book.turn("x", [0, 1, 2, 3, 4, 5])
        book.journey("z", "a", "a", [0, 1, 2, 3, 8, 5])
        self.assert_common(book, [0, 1, 2, 3, 5], [[0, 1, 2, 3], [5]], "x", "z")
        self.assert_common(book, [0, 1, 2, 3, 5], [[0, 1, 2, 3], [5]], "z", "x")

    def test_in_neither(self):
        book = ring_book()
        book.journey("x", "a", "a", [0, 1, 2, 3, 4, 5])
        book.journey("y", "a", "a", [0, 6, 2, 3, 8, 5])
        book.journey("z", "a", "a", [0, 6, 7, 3, 8, 5])
        self.assert_common(book, [0, 2, 3, 5], [[0], [2, 3], [5]])
        self.assert_common(book, [0, 3, 5], [[0], [3], [5]], "x", "z")
        self.assert_common(book, [0, 6, 3, 8, 5], [[0, 6], [3, 8, 5]], "y", "z")
        self.assert_common(book, [0, 6, 3, 8, 5], [[0, 6], [3, 8, 5]], "z", "y")

    def test_side_by_side_in_one_of_them_alone(self):
        # Runs that hang on one another by other runs between them, and straight.
        book = Book()
        for name in "ab":
            book.place(name, 0, 0)
        for leaves in (0, 10, 20, 30):
            book.run("a", "b", leaves, leaves + 1, 9)
            book.run("b", "a", leaves + 5, leaves + 6, 9)
        book.journey("x", "a", "a", [0, 7])
        book.journey("y", "a", "a", [0, 1, 2, 7])
        self.assert_common(book, [0, 7], [[0], [7]])
        self.assert_common(book, [0, 7], [[0], [7]], "y", "x")
        book.journey("z", "a", "a", [0, 1, 2, 3, 4, 7])
        self.assert_common(book, [0, 1, 2, 7], [[0, 1, 2], [7]], "y", "z")
        self.assert_common(book, [0, 1, 2, 7], [[0, 1, 2], [7]], "z", "y")
        self.assert_common(book, [0, 7], [[0], [7]], "x", "z")

    def test_in_the_order_of_the_first_one_s_legs(self):
        book = ring_book()
        # Numbers that fall, and, by news, legs that the two have in unlike orders.
        book.run("b", "a", 700, 750, 9)
        book.run("a", "b", 600, 650, 9)
        book.journey("x", "a", "a", [11, 10])
        self.assert_common(book, [11, 10], [[11, 10]], "x", "x")
        book.news(11, 0, "slip", 200)
        book.journey("y", "b", "b", [10, 11])
        self.assert_common(book, [11, 10], [[11], [10]])
        self.assert_common(book, [10, 11], [[10], [11]], "y", "x")

    def test_whether_legs_stand_makes_no_difference(self):
        book = ring_book()
        book.journey("x", "a", "a", [0, 1, 2, 3, 4, 5])
        book.journey("y", "a", "a", [0, 1, 7, 3, 4, 5])
        for run in (0, 4):
            book.news(run, 0, "gone", 0)
            self.assert_common(book, [0, 1, 3, 4, 5], [[0, 1], [3, 4, 5]])

    def test_whether_they_share_makes_no_difference(self):
        book = ring_book()
        book.journey("x", "a", "a", [0, 1, 2])
        book.journey("y", "a", "a", [0, 1, 2])
        book.share("x", "y", 1)
        self.assert_common(book, [0, 1, 2], [[0, 1, 2]])


def waiting_book():
    book = Book()
    for name in "abcd":
        book.place(name, 0, 0)
    return book


def add_wait(book, name, coming, leaving, place="b"):
    """A journey of that name that waits from one moment till another at a place."""
    runs = [book.run("a", place, -500, coming, 9), book.run(place, "c", leaving, 30000, 9)]
    book.journey(name, "a", "c", runs)


class MeetingTests(BookCase):
    def assert_meetings(self, book, told, one="x", other="y"):
        self.assertEqual(self.unchanged(meetings, book, one, other), told)
        self.assertEqual(self.unchanged(meetings, book, other, one), told)
        self.assertTrue(all(type(row) is tuple for row in meetings(book, one, other)))

    def test_moments_in_common(self):
        for first, second, both in (
                ((100, 200), (150, 300), (150, 200)), ((100, 200), (120, 180), (120, 180)),
                ((100, 200), (100, 200), (100, 200)), ((100, 200), (200, 300), (200, 200)),
                ((100, 200), (199, 300), (199, 200)), ((100, 200), (100, 100), (100, 100)),
                ((150, 150), (150, 150), (150, 150)), ((100, 200), (100, 150), (100, 150)),
                ((100, 200), (150, 200), (150, 200)), ((-300, -100), (-200, 5), (-200, -100)),
                ((100, 200), (201, 300), None), ((100, 200), (250, 300), None), ((100, 100), (101, 101), None)):
            book = waiting_book()
            add_wait(book, "x", *first)
            add_wait(book, "y", *second)
            self.assert_meetings(book, [("b",) + both] if both else [])

    def test_at_other_places_they_do_not_meet(self):
        book = waiting_book()
        add_wait(book, "x", 100, 200)
        add_wait(book, "y", 100, 200, "d")
        self.assert_meetings(book, [])
        self.assert_meetings(book, [("b", 100, 200)], "x", "x")
        self.assert_meetings(book, [("d", 100, 200)], "y", "y")

    def test_without_waits(self):
        book = waiting_book()
        add_wait(book, "x", 100, 200)
        book.journey("y", "b", "b", [])
        book.journey("z", "a", "b", [0])
        for one in "xyz":
            for other in "yz":
                self.assert_meetings(book, [], one, other)

    def test_a_change_takes_its_time_of_the_wait(self):
        book = Book()
        for name in "abc":
            book.place(name, 0, 50)
        add_wait(book, "x", 100, 150)
        add_wait(book, "y", 150, 200)
        self.assert_meetings(book, [("b", 150, 150)])

    def test_several_waits_in_order(self):
        book = waiting_book()
        for row in (("a", "d", 0, 10, 9), ("d", "b", 100, 110, 9), ("b", "d", 200, 210, 9), ("d", "c", 300, 310, 9),
                    ("a", "b", 0, 120, 9), ("b", "d", 150, 160, 9), ("d", "b", 170, 180, 9), ("b", "d", 190, 220, 9)):
            book.run(*row)
        book.journey("x", "a", "c", [0, 1, 2, 3])
        book.journey("y", "a", "c", [4, 5, 6, 7, 3])
        # x waits at d from 10 to 100, b from 110 to 200, d from 210 to 300.
        # y waits at b from 120 to 150, d from 160 to 170, b from 180 to 190, d from 220 to 300.
        self.assert_meetings(book, [("b", 120, 150), ("b", 180, 190), ("d", 220, 300)])
        self.assert_meetings(book, [("b", 110, 200), ("d", 10, 100), ("d", 210, 300)], "x", "x")
        self.assert_meetings(
            book, [("b", 120, 150), ("b", 180, 190), ("d", 160, 170), ("d", 220, 300)], "y", "y")

    def test_between_legs_that_stand_alone(self):
        book = waiting_book()
        add_wait(book, "x", 100, 200)
        add_wait(book, "y", 150, 300)
        book.news(0, 0, "slip", 100)
        self.assert_meetings(book, [("b", 200, 200)])
        book.news(0, 1, "slip", 101)
        self.assert_meetings(book, [])
        book.news(1, 0, "slip", 55)
        self.assert_meetings(book, [("b", 201, 255)])
        book.news(1, 1, "gone", 0)
        self.assert_meetings(book, [])
        book.news(1, 2, "on", 0)
        book.news(0, 2, "on", 0)
        self.assert_meetings(book, [("b", 150, 200)])
        book.news(2, 0, "gone", 0)
        self.assert_meetings(book, [])

    def test_any_waits(self):
        chance = random.Random(17)
        for turn in range(200):
            book = waiting_book()
            rows = []
            for name in "xy":
                coming = chance.randint(0, 8)
                rows.append((coming, coming + chance.randint(0, 8)))
                add_wait(book, name, *rows[-1])
            both = sorted(set(range(rows[0][0], rows[0][1] + 1)) & set(range(rows[1][0], rows[1][1] + 1)))
            self.assert_meetings(book, [("b", both[0], both[-1])] if both else [])


class NoJourneyTests(BookCase):
    def test_of_either_name(self):
        book = ring_book()
        book.journey("x", "a", "a", [0, 1, 2])
        book.journey("y", "a", "a", [])
        book.journey("z", "a", "a", [])
        book.drop("z")
        for ask in ALL:
            for known in "xy":
                for name in ("z", "w", "", "a", "X"):
                    self.refused(NoJourney, ask, book, known, name)
                    self.refused(NoJourney, ask, book, name, known)
                    self.refused(NoJourney, ask, book, name, name)
                    self.refused(NoJourney, ask, book, name, "v")

    def test_an_empty_book(self):
        for ask in ALL:
            for one, other in (("", ""), ("x", "y"), ("x", "x")):
                self.refused(NoJourney, ask, Book(), one, other)

    def test_the_first_name_first(self):
        # Both are refused alike; which one was asked first is seen by a book that tells what it was asked.
        class Told(Book):
            def __init__(self):
                Book.__init__(self)
                self.asked = []

            def kept_journey(self, name):
                self.asked.append(name)
                return Book.kept_journey(self, name)

        for ask in ALL:
            book = Told()
            with self.assertRaises(NoJourney):
                ask(book, "one", "other")
            self.assertEqual(book.asked, ["one"])

    def test_arguments_by_name(self):
        book = ring_book()
        book.journey("x", "a", "a", [0, 1, 2])
        self.assertEqual([ask(book=book, one="x", other="x") for ask in ALL], [
            [0, 1, 2], [[0, 1, 2]], [("b", 50, 100), ("c", 150, 200)]])


if __name__ == "__main__":
    unittest.main()
