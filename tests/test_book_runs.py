"""Points [1], [11] and [12]: places, runs and news of runs in a book."""

import itertools
import random
import unittest

from cases import BookCase, four_places
from wayhold.book import Book
from wayhold.errors import Astray, BadClock, BadName, BadNews, BadSeats, BadTimes, Full, NoPlace, NoRun, Taken, Twice

FAR = 10 ** 39 + 4321
FARTHEST = 10 ** 59 + 4321
GOOD_NAMES = ("a", "z", "0", "9", "az09", "abcdefghijkl", "012345678901", "mnopqrstuvwx", "yz", "j0")
BAD_NAMES = ("", "abcdefghijklm", "A", "aB", "a b", " a", "a ", "a-b", "a_b", "~", "`", "{", "/", ":", "a.", "x" * 2000)


class PlaceTests(BookCase):
    def test_places_and_what_changes_take(self):
        book = Book()
        self.assertEqual(book.spans(), {})
        self.assertIs(book.place("b", 900, 1000), None)
        self.assertIs(book.place("a", -900, 0), None)
        self.assertIs(book.place("c", 0, 7), None)
        self.assertEqual(self.unchanged(book.spans), {"a": 0, "b": 1000, "c": 7})
        self.assertEqual(book.log(), [("place", "b", 900, 1000), ("place", "a", -900, 0), ("place", "c", 0, 7)])

    def test_names(self):
        book = Book()
        for name in GOOD_NAMES:
            book.place(name, 0, 0)
        self.assertEqual(book.spans(), {name: 0 for name in GOOD_NAMES})
        for name in BAD_NAMES:
            self.refused(BadName, book.place, name, 0, 0)

    def test_a_name_is_taken_once(self):
        book = Book()
        for name in ("a", "bb"):
            book.place(name, 0, 0)
            self.refused(Taken, book.place, name, 1, 1)
        book.journey("j", "a", "a", [])
        book.place("j", 0, 0)
        self.refused(Taken, book.place, "j", 0, 0)

    def test_clocks_out_of_bounds(self):
        for ahead, span in ((-900, 0), (900, 0), (0, 1000), (-900, 1000), (899, 999)):
            Book().place("a", ahead, span)
        for ahead, span in ((-901, 0), (901, 0), (0, -1), (0, 1001), (901, 1001), (FARTHEST, 0), (0, -FARTHEST)):
            self.refused(BadClock, Book().place, "a", ahead, span)

    def test_twelve_places_and_one_more(self):
        book = Book()
        for at in range(12):
            book.place("p%d" % at, 0, at)
        self.assertEqual(len(book.spans()), 12)
        self.refused(Full, book.place, "p12", 0, 0)
        book.undo()
        book.place("p12", 0, 0)
        self.refused(Full, book.place, "p13", 0, 0)

    def test_of_two_refusals_the_one_told_first(self):
        book = Book()
        for at in range(12):
            self.refused(BadName, book.place, "A", 901, 0)
            book.place("p%d" % at, 0, 0)
            self.refused(Taken, book.place, "p0", 0, 1001)
        self.refused(BadName, book.place, "", 0, 0)
        self.refused(Taken, book.place, "p11", 0, 0)
        self.refused(BadClock, book.place, "new", 0, -1)
        self.refused(BadClock, book.place, "new", -901, 0)

    def test_arguments_by_name(self):
        book = Book()
        book.place(name="a", ahead=3, span=4)
        book.place("b", 0, 0)
        self.assertEqual(book.run(start="a", goal="b", leaves=1, comes=2, seats=3), 0)
        book.news(run=0, stamp=5, word="slip", many=6)
        self.assertEqual(book.goes(run=0), (0, "a", "b", 7, 8))
        self.assertEqual(book.told(run=0), ("a", "b", 1, 2, 3))
        self.assertEqual(book.reports(run=0), [(5, "slip", 6)])
        self.assertEqual(book.known(run=0, stamp=4), (0, "a", "b", 1, 2))
        self.assertEqual(book.free(run=0), 3)


class RunTests(BookCase):
    def test_runs_are_numbered_from_nought(self):
        book = four_places(Book())
        self.assertEqual(book.many(), 0)
        rows = [("a", "b", 0, 100, 2), ("b", "a", -40000, 40000, 1), ("c", "d", 39999, 40000, FARTHEST),
                ("a", "b", 0, 100, 2), ("d", "a", -40000, -39999, 5)]
        for number, row in enumerate(rows):
            self.assertEqual(book.run(*row), number)
            self.assertEqual(self.unchanged(book.many), number + 1)
        for number, row in enumerate(rows):
            told = self.unchanged(book.told, number)
            self.assertIs(type(told), tuple)
            self.assertEqual(told, row)
            self.assertEqual(self.unchanged(book.goes, number), (number,) + row[:4])
            self.assertEqual(self.unchanged(book.known, number, FAR), (number,) + row[:4])
            self.assertEqual(self.unchanged(book.reports, number), [])
            self.assertEqual(self.unchanged(book.free, number), row[4])
        self.assertEqual(book.log()[4:], [("run",) + row for row in rows])

    def test_each_refusal_by_itself(self):
        book = four_places(Book())
        for start, goal in (("x", "b"), ("a", "x"), ("", "b"), ("a", "A")):
            self.refused(NoPlace, book.run, start, goal, 0, 1, 1)
        self.refused(Astray, book.run, "a", "a", 0, 1, 1)
        times = ((0, 0), (1, 0), (-40001, 0), (0, 40001), (-40001, -40000), (40000, 40001), (40000, 40000),
                 (-FARTHEST, 0), (0, FARTHEST), (FAR, FAR + 1))
        for leaves, comes in times:
            self.refused(BadTimes, book.run, "a", "b", leaves, comes, 1)
        for seats in (0, -1, -FARTHEST):
            self.refused(BadSeats, book.run, "a", "b", 0, 1, seats)
        self.assertEqual(book.many(), 0)
        self.assertEqual(book.run("a", "b", -40000, 40000, 1), 0)

    def test_forty_runs_and_one_more(self):
        book = four_places(Book())
        for number in range(40):
            self.assertEqual(book.run("a", "b", number, number + 1, 1), number)
        self.refused(Full, book.run, "a", "b", 0, 1, 1)
        self.assertEqual((book.many(), book.told(39)), (40, ("a", "b", 39, 40, 1)))
        self.refused(NoPlace, book.run, "x", "a", 0, 1, 1)
        self.refused(Astray, book.run, "a", "a", 0, 1, 1)
        self.refused(BadTimes, book.run, "a", "b", 1, 1, 1)
        self.refused(BadSeats, book.run, "a", "b", 0, 1, 0)

    def test_of_two_refusals_the_one_told_first(self):
        book = four_places(Book())
        self.refused(NoPlace, book.run, "x", "x", 0, 1, 1)
        self.refused(NoPlace, book.run, "a", "x", 1, 0, 1)
        self.refused(NoPlace, book.run, "x", "a", 0, 1, 0)
        self.refused(Astray, book.run, "a", "a", 1, 0, 1)
        self.refused(Astray, book.run, "a", "a", 0, 1, 0)
        self.refused(BadTimes, book.run, "a", "b", 1, 0, 0)

    def test_no_run_has_this_number(self):
        book = four_places(Book())
        for many in range(3):
            for run in (-1, -many - 1, many, many + 1, FARTHEST, -FARTHEST):
                for ask in (book.told, book.goes, book.reports, book.free):
                    self.refused(NoRun, ask, run)
                self.refused(NoRun, book.known, run, 0)
                self.refused(NoRun, book.news, run, 0, "gone", 0)
            book.run("a", "b", 0, 1, 1)

    def test_seats_that_journeys_have(self):
        book = four_places(Book())
        book.run("a", "b", 0, 10, 3)
        book.run("b", "a", 30, 40, FARTHEST)
        for at, name in enumerate(("x", "y", "z")):
            book.journey(name, "a", "b" if at else "a", [0] if at else [0, 1])
            self.assertEqual(self.unchanged(book.free, 0), 2 - at)
            self.assertEqual(book.free(1), FARTHEST - 1)
        book.drop("x")
        self.assertEqual((book.free(0), book.free(1)), (1, FARTHEST))


class NewsTests(BookCase):
    def test_words_and_numbers_that_are_let(self):
        book = four_places(Book())
        book.run("a", "b", -40000, 40000, 1)
        rows = ((0, "slip", 0), (1, "slip", 20000), (2, "gone", 0), (3, "on", 0), (4, "slip", 7), (5, "gone", 0))
        rides = ((-40000, 40000), (-20000, 60000), None, (-40000, 40000), (-39993, 40007), None)
        for (stamp, word, many), times in zip(rows, rides):
            self.assertIs(book.news(0, stamp, word, many), None)
            ride = times and (0, "a", "b") + times
            self.assertEqual(self.unchanged(book.goes, 0), ride)
            self.assertEqual(self.unchanged(book.reports, 0), list(rows[:stamp + 1]))
            self.assertEqual(book.told(0), ("a", "b", -40000, 40000, 1))
        self.assertEqual(book.log()[5:], [("news", 0) + row for row in rows])

    def test_words_and_numbers_that_are_not_let(self):
        book = four_places(Book())
        book.run("a", "b", 0, 1, 1)
        wrong = (("slip", -1), ("slip", 20001), ("slip", FARTHEST), ("gone", 1), ("gone", -1), ("on", 1), ("on", -1),
                 ("", 0), ("Slip", 0), ("gone ", 0), ("off", 0), ("late", 5), ("on" * 1000, 0), ("slip", -FARTHEST))
        for word, many in wrong:
            self.refused(BadNews, book.news, 0, 0, word, many)
        self.assertEqual(book.reports(0), [])

    def test_news_of_a_stamp_stands_once(self):
        book = four_places(Book())
        book.run("a", "b", 0, 1, 1)
        book.run("a", "b", 0, 1, 1)
        book.news(0, 5, "slip", 3)
        for word, many in (("slip", 3), ("gone", 0), ("slip", 4)):
            self.refused(Twice, book.news, 0, 5, word, many)
        book.news(1, 5, "gone", 0)
        self.assertEqual((book.reports(0), book.reports(1)), ([(5, "slip", 3)], [(5, "gone", 0)]))

    def test_of_two_refusals_the_one_told_first(self):
        book = four_places(Book())
        book.run("a", "b", 0, 1, 1)
        book.news(0, 5, "on", 0)
        self.refused(NoRun, book.news, 1, 5, "slip", -1)
        self.refused(NoRun, book.news, -1, 5, "on", 0)
        self.refused(BadNews, book.news, 0, 5, "slip", 20001)

    def test_the_greatest_stamp_counts_in_whatever_order(self):
        news = ((-FAR, "gone", 0), (-1, "slip", 50), (0, "on", 0), (7, "slip", 9),
                (FAR, "gone", 0), (FAR + 1, "slip", 4))
        by_time = []
        for many in range(7):
            book = four_places(Book())
            book.run("a", "b", 0, 1, 1)
            for row in news[:many]:
                book.news(0, *row)
            by_time.append(book.goes(0))
        self.assertEqual(by_time[1:], [
            None, (0, "a", "b", 50, 51), (0, "a", "b", 0, 1), (0, "a", "b", 9, 10), None, (0, "a", "b", 4, 5)])
        stamps = (-FARTHEST, -FAR - 1, -FAR, -2, -1, 0, 1, 6, 7, 8, FAR - 1, FAR, FAR + 1, FARTHEST)
        for order in itertools.permutations(news):
            book = four_places(Book())
            book.run("a", "b", 0, 1, 1)
            for row in order:
                book.news(0, *row)
            self.assertEqual(book.goes(0), by_time[6])
            self.assertEqual(book.reports(0), list(news))
            for stamp in stamps:
                many = sum(1 for row in news if row[0] <= stamp)
                self.assertEqual(book.known(0, stamp), by_time[many])

    def test_news_of_one_run_says_nothing_of_another(self):
        book = four_places(Book())
        for number in range(3):
            book.run("a", "b", number, 10, 1)
        book.news(1, 0, "gone", 0)
        book.news(2, 9, "slip", 8)
        self.assertEqual([book.goes(run) for run in range(3)], [(0, "a", "b", 0, 10), None, (2, "a", "b", 10, 18)])
        self.assertEqual([book.reports(run) for run in range(3)], [[], [(0, "gone", 0)], [(9, "slip", 8)]])

    def test_late_and_in_time_leave_all_alike(self):
        chance = random.Random(31)
        for turn in range(60):
            told = []
            for stamp in chance.sample(range(-20, 20), 8):
                word = chance.choice((("gone", 0), ("on", 0), ("slip", chance.randint(0, 90))))
                told.append((chance.randrange(3), stamp) + word)
            books = []
            for news in (told, sorted(told), sorted(told, key=lambda row: -row[1])):
                book = four_places(Book())
                for leaves, start, goal in ((0, "a", "b"), (100, "b", "c"), (200, "c", "d")):
                    book.run(start, goal, leaves, leaves + 50, 1)
                book.journey("j", "a", "d", [0, 1, 2])
                for row in news:
                    book.news(*row)
                answers = [book.wanted("j"), book.mended("j", 0), book.mended("j", 100)]
                for run in range(3):
                    answers += [book.goes(run), book.reports(run)] + [book.known(run, at) for at in range(-21, 21)]
                books.append(answers)
            self.assertEqual(books[0], books[1])
            self.assertEqual(books[0], books[2])


if __name__ == "__main__":
    unittest.main()
