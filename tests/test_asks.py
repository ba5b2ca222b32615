"""Points [2], [5], [6], [11], [12] and [13]: the places and journeys of a book, and how a journey's legs stand."""

import random
import unittest

from cases import BookCase, four_places
from oracle import hangs_by_words
from wayhold.asks import (
    anew, barred, beds_anew, beds_idle, behind, clock, ends, fault, journeys, legs, places, rides_of, spares, stands,
    times)
from wayhold.book import Book
from wayhold.errors import NoJourney, NoPlace

FAR = 10 ** 59 + 4321
RUNS = (
    ("a", "b", 0, 100, 9),        # 0
    ("b", "c", 125, 200, 9),      # 1: 15 to spare behind 0
    ("c", "d", 200, 300, 9),      # 2: hangs on 1 by nought minutes
    ("d", "a", 1500, 1600, 9),    # 3: 1200 to spare behind 2
)
OF_A_JOURNEY = (ends, legs, rides_of, fault, stands, spares, times, beds_anew, beds_idle)
OF_A_MOMENT = (behind, anew, barred)


def usual_book(*news):
    """The journey x by all four runs, y without legs, z by 1 and 2; and the news told behind their booking."""
    book = four_places(Book())
    for row in RUNS:
        book.run(*row)
    book.journey("x", "a", "a", [0, 1, 2, 3])
    book.journey("y", "c", "c", [])
    book.journey("z", "b", "d", [1, 2])
    for at, (run, word, many) in enumerate(news):
        book.news(run, at, word, many)
    return book


class NamesTests(BookCase):
    def test_an_empty_book_has_none(self):
        self.assertEqual((self.unchanged(places, Book()), self.unchanged(journeys, Book())), ([], []))

    def test_names_in_order(self):
        book = Book()
        names = ["b", "10", "9", "a0", "a", "zz", "abcdefghijkl", "09"]
        for name in names:
            book.place(name, 0, 0)
        self.assertEqual(self.unchanged(places, book), ["09", "10", "9", "a", "a0", "abcdefghijkl", "b", "zz"])
        self.assertEqual(journeys(book), [])
        for name in ["j2", "b", "j10", "j", "0"]:
            book.journey(name, "a", "a", [])
        self.assertEqual(self.unchanged(journeys, book), ["0", "b", "j", "j10", "j2"])
        self.assertEqual(places(book), sorted(names))

    def test_names_that_come_and_go(self):
        book = usual_book()
        self.assertEqual((places(book), journeys(book)), (["a", "b", "c", "d"], ["x", "y", "z"]))
        book.drop("y")
        self.assertEqual(journeys(book), ["x", "z"])
        book.undo()
        self.assertEqual(journeys(book), ["x", "y", "z"])
        book.place("0", 0, 0)
        self.assertEqual(places(book), ["0", "a", "b", "c", "d"])
        book.undo()
        self.assertEqual(places(book), ["a", "b", "c", "d"])

    def test_twelve_of_each(self):
        book = Book()
        names = ["n%d" % at for at in range(12)]
        for name in reversed(names):
            book.place(name, 0, 0)
        for name in names:
            book.journey(name, "n0", "n0", [])
        self.assertEqual((places(book), journeys(book)), (sorted(names), sorted(names)))


class ClockTests(BookCase):
    def test_ahead_and_span(self):
        book = four_places(Book())
        book.place("e", 900, 1000)
        book.place("f", -900, 0)
        told = [self.unchanged(clock, book, name) for name in "abcdef"]
        self.assertEqual(told, [(0, 5), (60, 10), (-60, 0), (0, 0), (900, 1000), (-900, 0)])
        self.assertTrue(all(type(pair) is tuple for pair in told))

    def test_no_place_is_called_so(self):
        book = usual_book()
        for name in ("e", "", "x", "A", "aa", "q" * 2000):
            self.refused(NoPlace, clock, book, name)
        for name in ("", "a"):
            self.refused(NoPlace, clock, Book(), name)
        book.place("e", 1, 2)
        self.assertEqual(clock(book, "e"), (1, 2))
        book.undo()
        self.refused(NoPlace, clock, book, "e")


class NoJourneyTests(BookCase):
    def refused_by_all(self, book, name):
        for ask in OF_A_JOURNEY:
            self.refused(NoJourney, ask, book, name)
        for ask in OF_A_MOMENT:
            for now in (-FAR, 0, FAR):
                self.refused(NoJourney, ask, book, name, now)

    def test_a_name_that_never_stood(self):
        for name in ("w", "a", "", "X", "xx", "q" * 2000):
            self.refused_by_all(usual_book(), name)

    def test_an_empty_book(self):
        for name in ("", "x", "a"):
            self.refused_by_all(Book(), name)

    def test_a_journey_that_was_dropped(self):
        book = usual_book((1, "gone", 0))
        book.drop("x")
        self.refused_by_all(book, "x")
        book.undo()
        self.assertEqual(legs(book, "x"), [0, 1, 2, 3])
        book.redo()
        self.refused_by_all(book, "x")

    def test_a_journey_that_was_taken_back(self):
        book = usual_book()
        book.undo()
        self.refused_by_all(book, "z")


class LegsTests(BookCase):
    def test_ends_and_legs(self):
        book = usual_book()
        told = [self.unchanged(ends, book, name) for name in "xyz"]
        self.assertEqual(told, [("a", "a"), ("c", "c"), ("b", "d")])
        self.assertTrue(all(type(pair) is tuple for pair in told))
        self.assertEqual([self.unchanged(legs, book, name) for name in "xyz"], [[0, 1, 2, 3], [], [1, 2]])
        self.assertTrue(all(type(legs(book, name)) is list for name in "xyz"))

    def test_only_deeds_change_legs(self):
        book = usual_book((0, "gone", 0), (1, "slip", 20000))
        self.assertEqual([legs(book, name) for name in "xyz"], [[0, 1, 2, 3], [], [1, 2]])
        book.turn("x", [])
        self.assertEqual((legs(book, "x"), ends(book, "x")), ([], ("a", "a")))
        book.undo()
        self.assertEqual(legs(book, "x"), [0, 1, 2, 3])
        book.redo()
        self.assertEqual(legs(book, "x"), [])

    def test_a_mended_journey(self):
        book = usual_book((0, "gone", 0))
        self.assertEqual(book.mend("x", -1), [])
        self.assertEqual((legs(book, "x"), rides_of(book, "x"), ends(book, "x")), ([], [], ("a", "a")))

    def test_rides_as_they_now_go(self):
        book = usual_book()
        rides = [(run,) + row[:4] for run, row in enumerate(RUNS)]
        self.assertEqual(self.unchanged(rides_of, book, "x"), rides)
        self.assertEqual(self.unchanged(rides_of, book, "y"), [])
        self.assertEqual(self.unchanged(rides_of, book, "z"), rides[1:3])
        book.news(2, 5, "gone", 0)
        book.news(1, 5, "slip", 7)
        late = (1, "b", "c", 132, 207)
        self.assertEqual(self.unchanged(rides_of, book, "x"), [rides[0], late, None, rides[3]])
        self.assertEqual(rides_of(book, "z"), [late, None])
        book.news(2, 6, "on", 0)
        self.assertEqual(rides_of(book, "z"), [late, rides[2]])


class StandingTests(BookCase):
    def assert_stands(self, book, name, told_fault, runs, told_spares):
        self.assertEqual(self.unchanged(fault, book, name), told_fault)
        self.assertEqual(self.unchanged(stands, book, name), runs)
        self.assertEqual(self.unchanged(spares, book, name), told_spares)

    def test_journeys_without_a_fault(self):
        book = usual_book()
        self.assert_stands(book, "x", None, [0, 1, 2, 3], [15, 0, 1200, None])
        self.assert_stands(book, "y", None, [], [])
        self.assert_stands(book, "z", None, [1, 2], [0, None])
        book.journey("w", "d", "a", [3])
        self.assert_stands(book, "w", None, [3], [None])

    def test_a_leg_that_is_gone(self):
        for run, runs, told in ((0, [], []), (1, [0], [None]), (2, [0, 1], [15, None]), (3, [0, 1, 2], [15, 0, None])):
            self.assert_stands(usual_book((run, "gone", 0)), "x", (run, "gone"), runs, told)
        self.assert_stands(usual_book((1, "gone", 0)), "z", (0, "gone"), [], [])
        self.assert_stands(usual_book((2, "gone", 0)), "z", (1, "gone"), [1], [None])

    def test_a_leg_that_is_missed(self):
        self.assert_stands(usual_book((0, "slip", 15)), "x", None, [0, 1, 2, 3], [0, 0, 1200, None])
        self.assert_stands(usual_book((0, "slip", 16)), "x", (1, "missed"), [0], [None])
        self.assert_stands(usual_book((1, "slip", 1)), "x", (2, "missed"), [0, 1], [16, None])
        self.assert_stands(usual_book((1, "slip", 1)), "z", (1, "missed"), [1], [None])
        self.assert_stands(usual_book((2, "slip", 1200)), "x", None, [0, 1, 2, 3], [15, 1200, 0, None])
        self.assert_stands(usual_book((2, "slip", 1201)), "x", (3, "missed"), [0, 1, 2], [15, 1201, None])

    def test_the_first_of_several(self):
        self.assert_stands(usual_book((3, "gone", 0), (1, "slip", 1)), "x", (2, "missed"), [0, 1], [16, None])
        self.assert_stands(usual_book((1, "gone", 0), (0, "slip", 999)), "x", (1, "gone"), [0], [None])
        self.assert_stands(usual_book((1, "gone", 0), (0, "gone", 0)), "x", (0, "gone"), [], [])
        self.assert_stands(usual_book((1, "gone", 0), (1, "on", 0)), "x", None, [0, 1, 2, 3], [15, 0, 1200, None])

    def test_a_fault_is_a_tuple(self):
        self.assertIs(type(fault(usual_book((0, "gone", 0)), "x")), tuple)

    def test_a_leg_could_come_later_by_its_spare_and_no_more(self):
        chance = random.Random(7)
        for turn in range(60):
            book = usual_book(*[(chance.randrange(4), "slip", chance.randint(0, 40)) for news in range(3)])
            rides, told = rides_of(book, "x"), spares(book, "x")
            self.assertEqual(len(told), len(stands(book, "x")))
            self.assertEqual(told[-1:], [None])
            for at, many in enumerate(told[:-1]):
                for late, holds in ((many, True), (many + 1, False)):
                    ride = rides[at][:4] + (rides[at][4] + late,)
                    self.assertEqual(hangs_by_words(ride, rides[at + 1], book.spans()), holds)

    def test_behind_a_moment(self):
        book = usual_book()
        for now, runs in ((-FAR, []), (-1, []), (0, [0]), (1, [0]), (124, [0]), (125, [0, 1]), (126, [0, 1]),
                          (199, [0, 1]), (200, [0, 1, 2]), (201, [0, 1, 2]), (1499, [0, 1, 2]), (1500, [0, 1, 2, 3]),
                          (1501, [0, 1, 2, 3]), (FAR, [0, 1, 2, 3])):
            self.assertEqual(self.unchanged(behind, book, "x", now), runs)
            self.assertEqual(self.unchanged(behind, book, "y", now), [])
            self.assertEqual(behind(book, "z", now), [run for run in runs if run in (1, 2)])

    def test_behind_a_moment_are_legs_that_stand_alone(self):
        book = usual_book((1, "slip", 1))
        for now, runs in ((-1, []), (0, [0]), (125, [0]), (126, [0, 1]), (200, [0, 1]), (FAR, [0, 1])):
            self.assertEqual(self.unchanged(behind, book, "x", now), runs)
        book = usual_book((0, "gone", 0))
        for now in (-1, 0, 125, FAR):
            self.assertEqual(behind(book, "x", now), [])
        self.assertEqual(behind(book, "z", 125), [1])

    def test_behind_a_moment_by_leavings_as_they_now_are(self):
        book = usual_book((0, "slip", 15))
        for now, runs in ((0, []), (14, []), (15, [0]), (16, [0])):
            self.assertEqual(behind(book, "x", now), runs)


class TimesTests(BookCase):
    def test_the_start_s_clock_and_the_goal_s(self):
        book = usual_book()
        self.assertEqual(self.unchanged(times, book, "x"), [
            ((0, 0), (0, 160)), ((0, 185), (0, 140)), ((0, 140), (0, 300)), ((1, 60), (1, 160))])
        self.assertEqual(self.unchanged(times, book, "y"), [])
        self.assertEqual(times(book, "z"), [((0, 185), (0, 140)), ((0, 140), (0, 300))])
        for leaving, coming in times(book, "x"):
            self.assertTrue(type(leaving) is tuple and type(coming) is tuple)
        self.assertTrue(all(type(pair) is tuple for pair in times(book, "x")))

    def test_as_the_runs_now_go(self):
        book = usual_book((0, "slip", 1239))
        self.assertEqual(times(book, "x")[0], ((0, 1239), (0, 1399)))
        book = usual_book((0, "slip", 1339))
        self.assertEqual(times(book, "x")[0], ((0, 1339), (1, 59)))
        book = usual_book((0, "slip", 1280))
        self.assertEqual(times(book, "x")[0], ((0, 1280), (1, 0)))
        book = usual_book((0, "slip", 1279))
        self.assertEqual(times(book, "x")[0], ((0, 1279), (0, 1439)))
        book.news(0, 9, "on", 0)
        self.assertEqual(times(book, "x")[0], ((0, 0), (0, 160)))

    def test_none_for_one_that_is_gone_and_legs_behind_a_fault_too(self):
        book = usual_book((1, "gone", 0))
        self.assertEqual(self.unchanged(times, book, "x"), [
            ((0, 0), (0, 160)), None, ((0, 140), (0, 300)), ((1, 60), (1, 160))])
        book = usual_book((1, "slip", 1), (3, "gone", 0))
        self.assertEqual(times(book, "x"), [((0, 0), (0, 160)), ((0, 186), (0, 141)), ((0, 140), (0, 300)), None])
        book = usual_book((1, "gone", 0), (2, "gone", 0))
        self.assertEqual(times(book, "z"), [None, None])

    def test_moments_below_nought(self):
        book = Book()
        for name, ahead in (("a", 900), ("b", -900), ("c", 0)):
            book.place(name, ahead, 0)
        for row in (("a", "b", -40000, -901, 1), ("b", "c", -540, -1, 1), ("c", "a", 0, 540, 1),
                    ("a", "c", 541, 900, 1), ("c", "b", 900, 40000, 1)):
            book.run(*row)
        book.journey("x", "a", "b", [0, 1, 2, 3, 4])
        self.assertEqual(self.unchanged(times, book, "x"), [
            ((-28, 1220), (-2, 1079)), ((-1, 0), (-1, 1439)), ((0, 0), (1, 0)), ((1, 1), (0, 900)),
            ((0, 900), (27, 220))])

    def test_arguments_by_name(self):
        book = usual_book()
        self.assertEqual((places(book=book), journeys(book=book)), (["a", "b", "c", "d"], ["x", "y", "z"]))
        self.assertEqual(clock(book=book, name="b"), (60, 10))
        told = [ask(book=book, name="y") for ask in OF_A_JOURNEY]
        self.assertEqual(told, [("c", "c"), [], [], None, [], [], [], [], []])
        self.assertEqual([ask(book=book, name="y", now=0) for ask in OF_A_MOMENT], [[], ([], []), None])


if __name__ == "__main__":
    unittest.main()
