"""Points [1], [11], [13], [14] and [15]: journeys, beds and shared runs in a book."""

import unittest

from cases import BookCase, four_places, night_book
from wayhold.book import Book
from wayhold.errors import (
    Astray, BadName, Broken, Full, NoBed, NoJourney, NoLeg, NoPlace, NoRun, NoShare, NoWay, Taken, Twice)

FARTHEST = 10 ** 59 + 4321
RUNS = (
    ("a", "b", 0, 100, 3),        # 0
    ("b", "c", 110, 200, 3),      # 1: hangs on 0 by nought minutes
    ("b", "c", 109, 190, 3),      # 2: is missed by one
    ("c", "d", 200, 300, 3),      # 3: hangs on 1 and 2
    ("a", "d", 50, 400, 1),       # 4
    ("d", "a", 400, 500, 9),      # 5
    ("a", "b", 505, 600, 9),      # 6: hangs on 5 by nought minutes
)


def usual_book():
    book = four_places(Book())
    for row in RUNS:
        book.run(*row)
    return book


class JourneyTests(BookCase):
    def test_a_journey_has_a_seat_of_each_run(self):
        book = usual_book()
        self.assertIs(book.journey("x", "a", "d", [0, 1, 3]), None)
        self.assertIs(book.journey("y", "a", "d", [4]), None)
        self.assertEqual([book.free(run) for run in range(7)], [2, 2, 3, 2, 0, 9, 9])
        self.assertEqual(book.mended("x", 0), [0, 1, 3])
        self.assertEqual(book.log()[-2:], [("journey", "x", "a", "d", (0, 1, 3)), ("journey", "y", "a", "d", (4,))])

    def test_no_legs_where_start_and_goal_are_the_same(self):
        book = usual_book()
        book.journey("x", "a", "a", [])
        self.assertEqual(book.mended("x", 0), [])
        self.refused(Astray, book.journey, "y", "a", "b", [])
        book.journey("y", "a", "a", [4, 5])
        book.turn("y", [])
        self.assertEqual((book.mended("y", 0), book.free(4), book.free(5)), ([], 1, 9))

    def test_the_list_handed_in_is_not_kept(self):
        book = usual_book()
        runs, other = [0, 1, 3], [4]
        book.journey("x", "a", "d", runs)
        runs[:] = [4, 5]
        self.assertEqual(book.mended("x", 0), [0, 1, 3])
        self.assertEqual(book.log()[-1], ("journey", "x", "a", "d", (0, 1, 3)))
        book.turn("x", other)
        other.append(0)
        self.assertEqual(book.mended("x", 0), [4])
        self.assertEqual(book.log()[-1], ("turn", "x", (4,)))
        self.assertEqual((runs, other), ([4, 5], [4, 0]))

    def test_names(self):
        book = usual_book()
        for name in ("", "abcdefghijklm", "A", "a b", "x_", "~", "y" * 2000):
            self.refused(BadName, book.journey, name, "a", "a", [])
        for name in ("abcdefghijkl", "0", "z9", "a"):
            book.journey(name, "a", "a", [])
            self.refused(Taken, book.journey, name, "a", "a", [])

    def test_each_refusal_by_itself(self):
        book = usual_book()
        self.refused(NoPlace, book.journey, "x", "e", "a", [])
        self.refused(NoPlace, book.journey, "x", "a", "e", [])
        for runs in ([7], [-1], [0, 1, 7], [FARTHEST], [-FARTHEST]):
            self.refused(NoRun, book.journey, "x", "a", "d", runs)
        for start, goal, runs in (("b", "d", [0, 1, 3]), ("a", "c", [0, 1, 3]), ("a", "d", [0, 3]), ("a", "d", [3, 0]),
                                  ("a", "b", [0, 0]), ("d", "c", [3]), ("a", "a", [0])):
            self.refused(Astray, book.journey, "x", start, goal, runs)
        self.refused(Broken, book.journey, "x", "a", "c", [0, 2], at=1, word="missed")
        self.refused(Broken, book.journey, "x", "a", "b", [4, 5, 0], at=2, word="missed")
        self.refused(Broken, book.journey, "x", "a", "d", [4, 5, 4], at=2, word="missed")
        book.journey("y", "a", "d", [4])
        self.refused(Full, book.journey, "x", "a", "d", [4])
        self.refused(Full, book.journey, "x", "a", "a", [4, 5])
        book.drop("y")
        book.journey("x", "a", "b", [4, 5, 6])

    def test_a_journey_is_broken_by_its_first_fault_as_its_runs_go_then(self):
        book = usual_book()
        book.news(3, 5, "gone", 0)
        self.refused(Broken, book.journey, "x", "a", "d", [0, 1, 3], at=2, word="gone")
        self.refused(Broken, book.journey, "x", "a", "d", [0, 2, 3], at=1, word="missed")
        book.news(0, 1, "slip", 1)
        self.refused(Broken, book.journey, "x", "a", "d", [0, 1, 3], at=1, word="missed")
        book.news(1, 1, "slip", 1)
        book.journey("x", "a", "c", [0, 1])
        book.news(0, 2, "gone", 0)
        self.refused(Broken, book.journey, "y", "a", "c", [0, 2], at=0, word="gone")
        self.refused(Broken, book.turn, "x", [0, 1], at=0, word="gone")
        book.news(0, 3, "on", 0)
        book.journey("y", "a", "c", [0, 1])

    def test_of_two_refusals_the_one_told_first(self):
        book = usual_book()
        book.journey("y", "a", "d", [4])
        self.refused(BadName, book.journey, "X", "e", "a", [])
        self.refused(BadName, book.journey, "X", "a", "d", [4])
        self.refused(Taken, book.journey, "y", "e", "a", [])
        self.refused(Taken, book.journey, "y", "a", "a", [99])
        self.refused(NoPlace, book.journey, "x", "e", "a", [99])
        self.refused(NoPlace, book.journey, "x", "a", "e", [0])
        self.refused(NoRun, book.journey, "x", "a", "d", [3, 0, 99])
        self.refused(NoRun, book.journey, "x", "a", "c", [0, 2, -1])
        self.refused(Astray, book.journey, "x", "a", "d", [0, 2])
        self.refused(Astray, book.journey, "x", "b", "d", [4])
        self.refused(Broken, book.journey, "x", "a", "d", [4, 5, 4], at=2, word="missed")
        book.news(4, 0, "gone", 0)
        self.refused(Broken, book.journey, "x", "a", "d", [4], at=0, word="gone")

    def test_twelve_journeys_and_one_more(self):
        book = usual_book()
        for at in range(12):
            book.journey("j%d" % at, "a", "a", [])
        self.refused(Full, book.journey, "j12", "a", "a", [])
        self.refused(Full, book.journey, "j12", "d", "b", [5, 6])
        self.refused(Broken, book.journey, "j12", "a", "c", [0, 2], at=1, word="missed")
        self.refused(Astray, book.journey, "j12", "a", "b", [])
        self.refused(Taken, book.journey, "j11", "a", "a", [])
        book.turn("j11", [])
        book.drop("j5")
        book.journey("j12", "a", "a", [])
        self.refused(Full, book.journey, "j5", "a", "a", [])

    def test_arguments_by_name(self):
        book = usual_book()
        book.journey(name="x", start="a", goal="d", runs=[0, 1, 3])
        book.journey(name="y", start="a", goal="d", runs=[0, 1, 3])
        book.share(one="x", other="y", run=3)
        book.unshare(one="x", other="y", run=3)
        book.bed(name="x", place="a", day=3)
        book.unbed(name="x", place="a", day=3)
        book.settle(name="x")
        book.turn(name="x", runs=[4])
        self.assertEqual(book.mend(name="x", now=0), [4])
        self.assertEqual(book.mended(name="x", now=0), [4])
        self.assertEqual((book.shared(name="x"), book.beds(name="x"), book.wanted(name="x")), ([], [], []))
        book.drop(name="x")


class TurnTests(BookCase):
    def test_other_legs(self):
        book = usual_book()
        book.journey("x", "a", "d", [0, 1, 3])
        self.assertIs(book.turn("x", [4]), None)
        self.assertEqual(book.mended("x", 0), [4])
        self.assertEqual([book.free(run) for run in range(5)], [3, 3, 3, 3, 0])
        self.assertEqual(book.log()[-1], ("turn", "x", (4,)))

    def test_its_own_seats_are_free_to_it(self):
        book = usual_book()
        book.journey("x", "a", "d", [4])
        book.turn("x", [4])
        self.assertEqual((book.mended("x", 0), book.free(4)), ([4], 0))
        book.journey("y", "a", "d", [0, 1, 3])
        self.refused(Full, book.turn, "y", [4])
        book.turn("x", [0, 1, 3])
        book.turn("y", [4])
        self.refused(Full, book.turn, "x", [4])

    def test_each_refusal_by_itself(self):
        book = usual_book()
        book.journey("x", "a", "d", [0, 1, 3])
        self.refused(NoJourney, book.turn, "y", [4])
        for runs in ([7], [-1], [0, 1, 7], [FARTHEST]):
            self.refused(NoRun, book.turn, "x", runs)
        for runs in ([], [0], [0, 1], [1, 3], [0, 3], [4, 5], [3, 1, 0]):
            self.refused(Astray, book.turn, "x", runs)
        self.refused(Broken, book.turn, "x", [0, 2, 3], at=1, word="missed")
        self.refused(Broken, book.turn, "x", [4, 5, 4], at=2, word="missed")
        book.news(4, 0, "gone", 0)
        self.refused(Broken, book.turn, "x", [4], at=0, word="gone")
        book.news(4, 1, "on", 0)
        book.journey("y", "a", "d", [4])
        self.refused(Full, book.turn, "x", [4])

    def test_of_two_refusals_the_one_told_first(self):
        book = usual_book()
        book.journey("x", "a", "d", [0, 1, 3])
        book.journey("y", "a", "d", [4])
        self.refused(NoJourney, book.turn, "z", [99])
        self.refused(NoJourney, book.turn, "z", [4])
        self.refused(NoRun, book.turn, "x", [3, 99])
        self.refused(Astray, book.turn, "x", [0, 2])
        self.refused(Astray, book.turn, "x", [4, 5])
        book.news(4, 0, "gone", 0)
        self.refused(Broken, book.turn, "x", [4], at=0, word="gone")

    def test_nothing_but_a_deed_changes_legs(self):
        book = usual_book()
        book.journey("x", "a", "d", [0, 1, 3])
        for stamp, word, many in ((0, "slip", 1), (1, "gone", 0), (2, "on", 0)):
            book.news(0, stamp, word, many)
            self.assertEqual([book.free(run) for run in range(4)], [2, 2, 3, 2])
        self.assertEqual(book.mended("x", 0), [0, 1, 3])

    def test_a_journey_with_a_fault_can_be_turned(self):
        book = usual_book()
        book.journey("x", "a", "d", [0, 1, 3])
        book.news(1, 0, "gone", 0)
        self.refused(Broken, book.turn, "x", [0, 1, 3], at=1, word="gone")
        book.turn("x", [4])
        self.assertEqual(book.mended("x", 0), [4])

    def test_beds_stay_where_legs_are_turned(self):
        book = usual_book()
        book.journey("x", "a", "d", [0, 1, 3])
        book.bed("x", "b", 0)
        book.turn("x", [4])
        self.assertEqual(book.beds("x"), [("b", 0)])


class DropTests(BookCase):
    def test_a_journey_is_given_up_with_all_it_has(self):
        book = usual_book()
        book.journey("x", "a", "d", [0, 1, 3])
        book.journey("y", "a", "c", [0, 1])
        book.journey("z", "b", "d", [1, 3])
        book.share("x", "y", 0)
        book.share("z", "x", 1)
        book.share("y", "z", 1)
        book.bed("x", "a", 4)
        book.bed("y", "b", 5)
        self.assertIs(book.drop("x"), None)
        for ask in (book.shared, book.beds, book.wanted, book.drop, book.settle):
            self.refused(NoJourney, ask, "x")
        self.assertEqual([book.free(run) for run in range(4)], [2, 1, 3, 2])
        self.assertEqual((book.shared("y"), book.shared("z"), book.beds("y")), ([("z", 1)], [("y", 1)], [("b", 5)]))
        self.assertEqual(book.log()[-1], ("drop", "x"))
        book.journey("x", "a", "d", [0, 1, 3])
        self.assertEqual((book.shared("x"), book.beds("x")), ([], []))

    def test_no_journey(self):
        book = usual_book()
        for name in ("x", "", "A", "a"):
            self.refused(NoJourney, book.drop, name)
            self.refused(NoJourney, book.turn, name, [])
            self.refused(NoJourney, book.mend, name, 0)
            self.refused(NoJourney, book.mended, name, 0)
            for ask in (book.shared, book.beds, book.wanted, book.settle):
                self.refused(NoJourney, ask, name)


class BedTests(BookCase):
    def test_wanted_by_the_place_s_clock(self):
        book = night_book()
        # b's days end at 1380 and 2820, c's at 2940 and 4380.
        self.assertEqual(self.unchanged(book.wanted, "x"), [("b", 0), ("c", 1), ("c", 2)])
        book.turn("x", [0, 3, 2])
        self.assertEqual(book.wanted("x"), [("b", 0), ("b", 1), ("c", 1), ("c", 2)])
        book.news(0, 1, "slip", 1279)
        self.assertEqual(book.wanted("x"), [("b", 0), ("b", 1), ("c", 1), ("c", 2)])
        book.news(0, 2, "slip", 1280)
        self.assertEqual(book.wanted("x"), [("b", 1), ("c", 1), ("c", 2)])
        book.news(3, 1, "slip", 40)
        self.assertEqual(book.wanted("x"), [("b", 1), ("c", 2)])
        self.assertTrue(all(type(bed) is tuple for bed in book.wanted("x")))

    def test_wanted_between_legs_that_stand(self):
        book = night_book()
        book.news(2, 0, "gone", 0)
        self.assertEqual(book.wanted("x"), [("b", 0)])
        book.news(2, 1, "on", 0)
        book.news(0, 0, "slip", 2710)
        self.assertEqual(book.wanted("x"), [])
        book.news(0, 1, "slip", 2709)
        self.assertEqual(book.wanted("x"), [("c", 1), ("c", 2)])
        book.news(0, 2, "gone", 0)
        self.assertEqual(book.wanted("x"), [])
        book.news(0, 3, "on", 0)
        book.news(1, 0, "slip", 1481)
        self.assertEqual(book.wanted("x"), [("b", 0), ("b", 1), ("b", 2)])

    def test_nothing_is_wanted_without_a_wait(self):
        book = usual_book()
        book.journey("x", "a", "a", [])
        book.journey("y", "a", "d", [4])
        book.journey("z", "a", "d", [0, 1, 3])
        for name in "xyz":
            self.assertEqual(self.unchanged(book.wanted, name), [])

    def test_one_place_twice(self):
        book = four_places(Book())
        for row in (("a", "b", 0, 1, 1), ("b", "a", 1400, 1500, 1),
                    ("a", "b", 1600, 2900, 1), ("b", "c", 4400, 4500, 1)):
            book.run(*row)
        book.journey("x", "a", "c", [0, 1, 2, 3])
        self.assertEqual(book.wanted("x"), [("b", 0), ("b", 2)])

    def test_nights_below_nought(self):
        book = four_places(Book())
        for row in (("a", "c", -40000, -39000, 1), ("c", "d", -36000, 5, 1)):
            book.run(*row)
        book.journey("x", "a", "d", [0, 1])
        self.assertEqual(book.wanted("x"), [("c", -28), ("c", -27)])

    def test_beds_are_asked_whether_wanted_or_not(self):
        book = night_book()
        self.assertEqual(self.unchanged(book.beds, "x"), [])
        for place, day in (("d", FARTHEST), ("b", 0), ("a", -3), ("b", -FARTHEST)):
            self.assertIs(book.bed("x", place, day), None)
        self.assertEqual(self.unchanged(book.beds, "x"), [("a", -3), ("b", -FARTHEST), ("b", 0), ("d", FARTHEST)])
        self.assertIs(book.unbed("x", "b", 0), None)
        self.assertEqual(book.beds("x"), [("a", -3), ("b", -FARTHEST), ("d", FARTHEST)])
        self.assertTrue(all(type(bed) is tuple for bed in book.beds("x")))
        self.assertEqual(book.log()[-2:], [("bed", "x", "b", -FARTHEST), ("unbed", "x", "b", 0)])

    def test_journey_by_journey(self):
        book = night_book()
        book.journey("y", "a", "d", [0, 1, 2])
        book.bed("x", "b", 0)
        self.assertEqual((book.beds("x"), book.beds("y")), ([("b", 0)], []))
        book.bed("y", "b", 0)
        book.unbed("x", "b", 0)
        self.assertEqual((book.beds("x"), book.beds("y")), ([], [("b", 0)]))
        book.settle("x")
        self.assertEqual(book.beds("y"), [("b", 0)])

    def test_settle_asks_just_the_wanted_ones(self):
        book = night_book()
        book.bed("x", "b", 0)
        book.bed("x", "a", 7)
        self.assertIs(book.settle("x"), None)
        self.assertEqual(book.beds("x"), [("b", 0), ("c", 1), ("c", 2)])
        self.assertEqual(book.log()[-1], ("settle", "x"))
        book.settle("x")
        self.assertEqual(book.beds("x"), [("b", 0), ("c", 1), ("c", 2)])
        self.assertEqual(book.log()[-2:], [("settle", "x"), ("settle", "x")])
        book.news(2, 0, "gone", 0)
        self.assertEqual(book.beds("x"), [("b", 0), ("c", 1), ("c", 2)])
        book.settle("x")
        self.assertEqual(book.beds("x"), [("b", 0)])
        book.news(0, 0, "gone", 0)
        book.settle("x")
        self.assertEqual(book.beds("x"), [])

    def test_refusals_and_their_order(self):
        book = night_book()
        book.bed("x", "b", 0)
        self.refused(NoJourney, book.bed, "y", "b", 0)
        self.refused(NoJourney, book.bed, "y", "e", 0)
        self.refused(NoPlace, book.bed, "x", "e", 0)
        self.refused(Twice, book.bed, "x", "b", 0)
        self.refused(NoJourney, book.unbed, "y", "b", 0)
        self.refused(NoJourney, book.unbed, "y", "e", 1)
        for place, day in (("b", 1), ("c", 0), ("e", 0), ("", 0), ("c", 1)):
            self.refused(NoBed, book.unbed, "x", place, day)
        book.unbed("x", "b", 0)
        self.refused(NoBed, book.unbed, "x", "b", 0)
        self.refused(NoJourney, book.settle, "y")


class ShareTests(BookCase):
    def book(self):
        book = usual_book()
        book.journey("x", "a", "d", [0, 1, 3])
        book.journey("y", "a", "d", [0, 1, 3])
        book.journey("z", "b", "d", [1, 3])
        return book

    def test_two_names_in_either_order(self):
        for one, other in (("x", "y"), ("y", "x")):
            book = self.book()
            self.assertIs(book.share(one, other, 1), None)
            self.assertEqual(book.log()[-1], ("share", one, other, 1))
            self.assertEqual(self.unchanged(book.shared, "x"), [("y", 1)])
            self.assertEqual(self.unchanged(book.shared, "y"), [("x", 1)])
            self.assertEqual(self.unchanged(book.shared, "z"), [])
            self.refused(Twice, book.share, "x", "y", 1)
            self.refused(Twice, book.share, "y", "x", 1)
            twin = book.twin()
            self.assertIs(book.unshare("x", "y", 1), None)
            self.assertIs(twin.unshare("y", "x", 1), None)
            for left in (book, twin):
                self.assertEqual((left.shared("x"), left.shared("y")), ([], []))
            self.assertEqual((book.log()[-1], twin.log()[-1]), (("unshare", "x", "y", 1), ("unshare", "y", "x", 1)))

    def test_pairs_in_order(self):
        book = self.book()
        for one, other, run in (("z", "y", 3), ("y", "x", 3), ("x", "y", 0), ("z", "y", 1), ("z", "x", 3)):
            book.share(one, other, run)
        self.assertEqual(book.shared("y"), [("x", 0), ("x", 3), ("z", 1), ("z", 3)])
        self.assertEqual(book.shared("x"), [("y", 0), ("y", 3), ("z", 3)])
        self.assertEqual(book.shared("z"), [("x", 3), ("y", 1), ("y", 3)])
        self.assertTrue(all(type(pair) is tuple for pair in book.shared("z")))

    def test_each_refusal_and_their_order(self):
        book = self.book()
        self.refused(NoJourney, book.share, "x", "w", 1)
        self.refused(NoJourney, book.share, "w", "x", 1)
        self.refused(NoJourney, book.share, "w", "w", 99)
        self.refused(NoJourney, book.share, "x", "w", -1)
        for run in (-1, 7, FARTHEST):
            self.refused(NoRun, book.share, "x", "y", run)
            self.refused(NoRun, book.share, "x", "x", run)
        self.refused(NoLeg, book.share, "x", "z", 0)
        self.refused(NoLeg, book.share, "z", "x", 0)
        self.refused(NoLeg, book.share, "x", "y", 4)
        self.refused(NoLeg, book.share, "x", "x", 1)
        book.share("x", "y", 1)
        self.refused(Twice, book.share, "y", "x", 1)
        for one, other, run in (("x", "y", 0), ("x", "z", 1), ("x", "x", 1),
                                ("w", "y", 1), ("x", "w", 99), ("y", "x", -1)):
            self.refused(NoShare, book.unshare, one, other, run)
        book.unshare("x", "y", 1)
        self.refused(NoShare, book.unshare, "x", "y", 1)
        book.share("y", "x", 1)

    def test_a_share_falls_away_with_the_run(self):
        book = self.book()
        for one, other, run in (("x", "y", 0), ("y", "x", 3), ("x", "z", 3), ("y", "z", 1), ("z", "y", 3)):
            book.share(one, other, run)
        book.turn("y", [0, 1, 3])
        self.assertEqual(book.shared("y"), [("x", 0), ("x", 3), ("z", 1), ("z", 3)])
        book.turn("y", [4])
        self.assertEqual((book.shared("x"), book.shared("y"), book.shared("z")), ([("z", 3)], [], [("x", 3)]))
        book.turn("y", [0, 1, 3])
        self.assertEqual(book.shared("y"), [])

    def test_the_shares_of_runs_that_stay_remain(self):
        book = four_places(Book())
        for row in (("a", "b", 0, 1, 9), ("b", "c", 20, 30, 9), ("b", "c", 20, 31, 9), ("c", "d", 40, 50, 9)):
            book.run(*row)
        book.journey("x", "a", "d", [0, 1, 3])
        book.journey("y", "a", "d", [0, 1, 3])
        for run in (0, 1, 3):
            book.share("x", "y", run)
        book.turn("x", [0, 2, 3])
        self.assertEqual(book.shared("y"), [("x", 0), ("x", 3)])

    def test_a_share_stays_when_the_run_is_gone(self):
        book = self.book()
        book.share("x", "y", 1)
        book.news(1, 0, "gone", 0)
        self.assertEqual(book.shared("x"), [("y", 1)])
        book.share("x", "y", 0)
        self.assertEqual(book.shared("y"), [("x", 0), ("x", 1)])

    def test_a_mended_journey_loses_the_shares_of_runs_it_loses(self):
        book = self.book()
        for one, other, run in (("x", "y", 0), ("x", "y", 1), ("x", "y", 3), ("x", "z", 3)):
            book.share(one, other, run)
        book.news(1, 0, "gone", 0)
        self.assertEqual(book.mend("x", -1), [4])
        self.assertEqual((book.shared("x"), book.shared("y"), book.shared("z")), ([], [], []))
        self.refused(NoWay, book.mend, "y", 0)


if __name__ == "__main__":
    unittest.main()
