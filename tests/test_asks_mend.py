"""Points [9], [14] and [16]: what the least change of a journey brings anew, what bars it, and beds to be asked."""

import random
import unittest

from cases import BookCase, book_to_mend, four_places, night_book
from drawn import AnyDeeds, BothCase
from oracle import PlainBook, holds_by_words
from oracle_asks import paper_fits
from wayhold.asks import anew, barred, beds_anew, beds_idle, fault, legs
from wayhold.book import Book
from wayhold.errors import NoWay
from wayhold.soonest import bars

FAR = 10 ** 59 + 4321


def plain_beside(book):
    """The plain book behind the same deeds."""
    plain = PlainBook()
    for deed in book.log():
        plain.do(deed)
    return plain


class ChangeTests(BookCase):
    def assert_anew(self, book, now, told, name="x"):
        """What anew, barred and mended tell belongs together."""
        self.assertEqual(self.unchanged(anew, book, name, now), told)
        runs = book.mended(name, now)
        paper = self.unchanged(barred, book, name, now)
        self.assertTrue(paper_fits(plain_beside(book), name, now, paper), paper)
        self.assertEqual((runs is None, paper is not None), (told is None, told is None))
        if told is None:
            self.refused(NoWay, book.mend, name, now)
            return
        new, lost = told
        self.assertTrue(type(anew(book, name, now)) is tuple)
        self.assertEqual([run for run in runs if run not in new], [run for run in legs(book, name) if run not in lost])
        twin = book.twin()
        self.assertEqual(twin.mend(name, now), runs)
        self.assertEqual(legs(twin, name), runs)
        self.assertEqual(fault(twin, name), None)
        self.assertEqual((anew(twin, name, now), barred(twin, name, now)), (([], []), None))

    def test_without_a_fault_nothing_new(self):
        book = book_to_mend(3, 5, 7)
        book.journey("y", "a", "a", [])
        for now in (-FAR, -1, 0, 1, 109, 110, 111, 209, 210, 211, 5000, FAR):
            self.assert_anew(book, now, ([], []))
            self.assert_anew(book, now, ([], []), "y")

    def test_ahead_of_at_and_behind_each_leaving(self):
        for now, told in ((-FAR, ([7], [1])), (-1, ([7], [1])), (0, ([7], [1])), (1, ([7], [1])), (109, ([7], [1])),
                          (110, ([6], [1, 2])), (111, ([6], [1, 2])), (149, ([6], [1, 2])), (150, None), (151, None),
                          (FAR, None)):
            self.assert_anew(book_to_mend(1), now, told)
        for now, told in ((-1, ([5], [0, 1, 2])), (0, ([6], [1, 2])), (149, ([6], [1, 2])), (150, None)):
            self.assert_anew(book_to_mend(1, 7), now, told)
        for now, told in ((-1, ([5], [0, 1, 2])), (0, ([3, 4], [1, 2])), (129, ([3, 4], [1, 2])), (130, None)):
            self.assert_anew(book_to_mend(1, 6, 7), now, told)
        for now, told in ((-1, ([4], [2])), (110, ([4], [2])), (229, ([4], [2])), (230, None)):
            self.assert_anew(book_to_mend(2), now, told)
        for now, told in ((-1, ([5], [0, 1, 2])), (149, ([5], [0, 1, 2])), (150, None)):
            self.assert_anew(book_to_mend(0), now, told)

    def test_legs_alone_may_be_lost(self):
        book = four_places(Book())
        for row in (("a", "b", 0, 10, 9), ("b", "c", 20, 30, 9), ("c", "b", 30, 40, 9)):
            book.run(*row)
        book.journey("x", "a", "b", [0, 1, 2])
        book.news(2, 0, "gone", 0)
        for now, told in ((-1, ([], [1, 2])), (0, ([], [1, 2])), (19, ([], [1, 2])), (20, None)):
            self.assert_anew(book, now, told)

    def test_in_the_order_of_the_change_and_of_the_legs(self):
        book = four_places(Book())
        for row in (("c", "d", 90, 99, 1), ("b", "c", 50, 60, 1), ("a", "b", 20, 30, 1),
                    ("c", "d", 91, 99, 1), ("b", "c", 51, 60, 1), ("a", "b", 21, 30, 1)):
            book.run(*row)
        book.journey("x", "a", "d", [2, 1, 0])
        for run in (0, 1, 2):
            book.news(run, 0, "gone", 0)
        self.assert_anew(book, 0, ([5, 4, 3], [2, 1, 0]))
        self.assert_anew(book, 20, ([5, 4, 3], [2, 1, 0]))
        self.assert_anew(book, 21, None)

    def test_a_journey_back_to_its_start(self):
        book = four_places(Book())
        for row in (("a", "b", 0, 10, 9), ("b", "a", 20, 30, 9)):
            book.run(*row)
        book.journey("x", "a", "a", [0, 1])
        book.news(1, 0, "gone", 0)
        self.assert_anew(book, -1, ([], [0, 1]))
        self.assert_anew(book, 0, None)

    def test_from_one_minute_behind_the_moment_on(self):
        book = book_to_mend(0, 5)
        book.run("a", "d", 77, 130, 1)
        self.assert_anew(book, 76, ([8], [0, 1, 2]))
        self.assert_anew(book, 77, None)
        self.assertTrue(holds_by_words([(8, "a", "d", 77, 130)], book.spans(), "a", "d", 78, barred(book, "x", 77)))

    def test_from_the_coming_and_the_span_of_the_last_leg_that_stays(self):
        for leaves, told in ((109, None), (110, ([8], [1, 2]))):
            book = book_to_mend(1, 3, 5, 6, 7)
            book.run("b", "d", leaves, 130, 1)
            for now in (0, 50, 108):
                self.assert_anew(book, now, told)
        paper = barred(book_to_mend(1, 3, 5, 6, 7), "x", 0)
        self.assertTrue(bars([(2, "c", "d", 210, 300)], {"b": 10, "c": 0, "d": 0}, "b", "d", 110, paper))

    def test_full_runs_and_gone_ones_lead_nowhere(self):
        book = book_to_mend(1)
        book.journey("y", "b", "c", [7])
        book.journey("z", "b", "d", [6])
        self.assert_anew(book, 0, ([3, 4], [1, 2]))
        book.news(3, 0, "gone", 0)
        self.assert_anew(book, 0, None)
        self.assert_anew(book, -1, ([5], [0, 1, 2]))
        book.journey("w", "a", "d", [5])
        self.assert_anew(book, -1, None)
        book.drop("w")
        self.assert_anew(book, -1, ([5], [0, 1, 2]))
        book.drop("y")
        self.assert_anew(book, 0, ([7], [1]))

    def test_its_own_runs_lead_though_full(self):
        book = four_places(Book())
        for row in (("a", "b", 0, 100, 1), ("b", "c", 110, 200, 1), ("c", "d", 210, 300, 1), ("b", "c", 115, 205, 1)):
            book.run(*row)
        book.journey("x", "a", "d", [0, 1, 2])
        book.news(1, 0, "gone", 0)
        for now in (-1, 0, 114):
            self.assert_anew(book, now, ([3], [1]))
        self.assert_anew(book, 115, None)
        book.journey("y", "b", "c", [3])
        self.assert_anew(book, 0, None)

    def test_shared_legs_are_held(self):
        book = four_places(Book())
        for row in (("a", "b", 0, 10, 9), ("b", "d", 20, 30, 9), ("a", "d", 0, 15, 9), ("a", "c", 0, 5, 9),
                    ("c", "b", 5, 9, 9)):
            book.run(*row)
        book.journey("x", "a", "d", [0, 1])
        book.journey("y", "b", "d", [1])
        book.news(0, 0, "gone", 0)
        self.assert_anew(book, -1, ([2], [0, 1]))
        book.share("y", "x", 1)
        self.assert_anew(book, -1, ([3, 4], [0]))

    def test_paper_that_is_told_is_a_list_of_pairs(self):
        paper = barred(book_to_mend(0, 5), "x", 0)
        self.assertIs(type(paper), list)
        self.assertTrue(all(type(pair) is tuple and len(pair) == 2 for pair in paper))
        self.assertEqual([place for place, moment in paper if place == "d"], [])
        self.assertTrue(any(place == "a" and moment <= 1 for place, moment in paper))

    def test_moments_of_sixty_figures(self):
        self.assert_anew(book_to_mend(1), -FAR, ([7], [1]))
        self.assert_anew(book_to_mend(1), FAR, None)


class AnyChangeTests(BothCase):
    def test_any_journeys_with_faults(self):
        found = {"none": 0, "some": 0}
        for seed in range(60):
            chance = random.Random(300 + seed)
            book, plain = self.begun(chance, 11)
            draws = AnyDeeds(chance, plain)
            for kind in ["journey"] * 6 + ["share"] * 3 + ["news"] * 6:
                self.do_both(book, plain, (kind,) + getattr(draws, "draw_" + kind)())
            for name in plain.now["journey"]:
                leavings = [ride[3] for ride in map(plain.goes, plain.now["journey"][name][2]) if ride]
                for now in {-1, 5000} | {leaving + step for leaving in leavings for step in (-1, 0, 1)}:
                    runs, paper = plain.mended(name, now), barred(book, name, now)
                    self.assertTrue(paper_fits(plain, name, now, paper), (name, now, paper))
                    told = anew(book, name, now)
                    if runs is None:
                        found["none"] += 1
                        self.assertIs(told, None)
                    else:
                        found["some"] += plain.fault(plain.now["journey"][name][2]) is not None
                        old = list(plain.now["journey"][name][2])
                        self.assertEqual(told, (
                            [run for run in runs if run not in old], [run for run in old if run not in runs]))
        self.assertTrue(min(found.values()) > 100, found)


class BedTests(BookCase):
    def assert_beds(self, book, new, idle, name="x"):
        self.assertEqual(self.unchanged(beds_anew, book, name), new)
        self.assertEqual(self.unchanged(beds_idle, book, name), idle)
        self.assertTrue(all(type(bed) is tuple for bed in beds_anew(book, name) + beds_idle(book, name)))
        twin = book.twin()
        twin.settle(name)
        self.assertEqual((beds_anew(twin, name), beds_idle(twin, name)), ([], []))

    def test_wanted_and_not_asked(self):
        book = night_book()
        self.assert_beds(book, [("b", 0), ("c", 1), ("c", 2)], [])
        book.bed("x", "c", 1)
        self.assert_beds(book, [("b", 0), ("c", 2)], [])
        book.bed("x", "b", 0)
        book.bed("x", "c", 2)
        self.assert_beds(book, [], [])
        book.unbed("x", "c", 1)
        self.assert_beds(book, [("c", 1)], [])

    def test_asked_and_not_wanted(self):
        book = night_book()
        for place, day in (("d", FAR), ("c", 10), ("c", 9), ("c", -FAR), ("a", 0), ("b", -1), ("c", 2)):
            book.bed("x", place, day)
        idle = [("a", 0), ("b", -1), ("c", -FAR), ("c", 9), ("c", 10), ("d", FAR)]
        self.assert_beds(book, [("b", 0), ("c", 1)], idle)
        book.settle("x")
        self.assert_beds(book, [], [])
        book.undo()
        self.assert_beds(book, [("b", 0), ("c", 1)], idle)

    def test_journeys_without_legs(self):
        book = night_book()
        book.journey("y", "a", "a", [])
        self.assert_beds(book, [], [], "y")
        book.bed("y", "b", 0)
        self.assert_beds(book, [], [("b", 0)], "y")
        self.assert_beds(book, [("b", 0), ("c", 1), ("c", 2)], [])

    def test_as_news_and_legs_change(self):
        book = night_book()
        book.settle("x")
        book.news(2, 0, "gone", 0)
        self.assert_beds(book, [], [("c", 1), ("c", 2)])
        book.news(0, 0, "gone", 0)
        self.assert_beds(book, [], [("b", 0), ("c", 1), ("c", 2)])
        book.news(0, 1, "slip", 1280)
        book.news(2, 1, "on", 0)
        self.assert_beds(book, [], [("b", 0)])
        book.news(0, 2, "on", 0)
        self.assert_beds(book, [], [])
        book.turn("x", [0, 3, 2])
        self.assert_beds(book, [("b", 1)], [])
        book.news(2, 2, "slip", 1440)
        self.assert_beds(book, [("b", 1), ("c", 3)], [])


if __name__ == "__main__":
    unittest.main()
