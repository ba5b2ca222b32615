"""Point [16]: the least change of a journey at a moment."""

import random
import unittest

from cases import BookCase, book_to_mend, four_places
from oracle import PlainBook
from wayhold.book import Book
from wayhold.errors import NoJourney, NoWay

FAR = 10 ** 39 + 4321


class MendTests(BookCase):
    def assert_mended(self, book, now, runs, name="x"):
        """The question, the deed on a twin, and that the told list is a new one."""
        self.assertEqual(self.unchanged(book.mended, name, now), runs)
        twin = book.twin()
        if runs is None:
            self.refused(NoWay, twin.mend, name, now)
            return
        told = twin.mend(name, now)
        self.assertIs(type(told), list)
        self.assertEqual(told, runs)
        self.assertEqual(twin.log(), book.log() + [("mend", name, now)])
        told.append(99)
        told[0] = 98
        self.assertEqual(twin.mended(name, now), runs)
        self.assertEqual(twin.mended(name, FAR), runs)
        for run in range(book.many()):
            taken = (run in runs) - (run in self.legs(book, name))
            self.assertEqual(twin.free(run), book.free(run) - taken)

    def legs(self, book, name):
        """The legs by the deeds of the log, as the tests below book them."""
        found = [deed for deed in book.log() if deed[:2] in (("journey", name), ("turn", name))]
        return found[-1][-1]

    def test_without_a_fault_its_own_legs(self):
        for now in (-FAR, -1, 0, 109, 110, 5000, FAR):
            self.assert_mended(book_to_mend(), now, [0, 1, 2])
            self.assert_mended(book_to_mend(3, 4, 5, 6, 7), now, [0, 1, 2])
        book = four_places(Book())
        book.journey("x", "a", "a", [])
        for now in (-FAR, 0, FAR):
            self.assert_mended(book, now, [])

    def test_legs_that_nobody_could_better_stay_even_where_others_come_sooner(self):
        book = book_to_mend()
        book.run("a", "d", 0, 1, 9)
        self.assert_mended(book, -1, [0, 1, 2])

    def test_ahead_of_at_and_behind_each_leaving(self):
        for now, runs in ((-FAR, [0, 7, 2]), (-1, [0, 7, 2]), (0, [0, 7, 2]), (1, [0, 7, 2]), (109, [0, 7, 2]),
                          (110, [0, 6]), (149, [0, 6]), (150, None), (FAR, None)):
            self.assert_mended(book_to_mend(1), now, runs)
        for now, runs in ((-1, [5]), (0, [0, 6]), (149, [0, 6]), (150, None)):
            self.assert_mended(book_to_mend(1, 7), now, runs)
        for now, runs in ((-1, [5]), (0, [0, 3, 4]), (129, [0, 3, 4]), (130, None)):
            self.assert_mended(book_to_mend(1, 6, 7), now, runs)
        for now, runs in ((-1, [0, 3, 4]), (0, [0, 3, 4]), (129, [0, 3, 4]), (130, None)):
            self.assert_mended(book_to_mend(1, 5, 6, 7), now, runs)

    def test_the_legs_ahead_of_the_fault_stay_once_they_have_left(self):
        for now, runs in ((-1, [0, 1, 4]), (0, [0, 1, 4]), (109, [0, 1, 4]), (110, [0, 1, 4]), (229, [0, 1, 4]),
                          (230, None)):
            self.assert_mended(book_to_mend(2), now, runs)
        for now, runs in ((-1, [5]), (0, [0, 6]), (109, [0, 6]), (110, None)):
            self.assert_mended(book_to_mend(2, 4), now, runs)

    def test_nothing_stays_where_the_first_leg_is_gone(self):
        for now, runs in ((-1, [5]), (0, [5]), (149, [5]), (150, None)):
            self.assert_mended(book_to_mend(0), now, runs)
        self.assert_mended(book_to_mend(0, 5), -1, None)

    def test_a_slip_misses_the_next_leg(self):
        book = book_to_mend()
        book.news(0, 1, "slip", 1)
        # 0 now leaves at 1 and comes at 101: from 111 on.
        for now, runs in ((0, [5]), (1, [0, 6]), (-1, [5])):
            self.assert_mended(book, now, runs)
        book.news(5, 1, "gone", 0)
        self.assert_mended(book, 0, [0, 6])
        book.news(6, 1, "gone", 0)
        self.assert_mended(book, 0, [0, 3, 4])
        book.news(0, 2, "slip", 20)
        self.assert_mended(book, 0, [0, 3, 4])
        book.news(0, 3, "slip", 21)
        self.assert_mended(book, 20, None)
        self.assert_mended(book, 21, None)
        book.news(0, 4, "on", 0)
        self.assert_mended(book, 21, [0, 1, 2])

    def test_it_goes_on_from_the_coming_and_the_span_there(self):
        for leaves, runs in ((109, None), (110, [0, 8])):
            book = book_to_mend(1, 3, 5, 6, 7)
            book.run("b", "d", leaves, 130, 1)
            for now in (0, 50, 108):
                self.assert_mended(book, now, runs)
        book = book_to_mend(1, 3, 5, 6, 7)
        book.run("b", "d", 120, 130, 1)
        self.assert_mended(book, 119, [0, 8])
        self.assert_mended(book, 120, None)

    def test_from_its_start_no_change_is_needed(self):
        book = book_to_mend(0, 5)
        book.run("a", "d", 3, 130, 1)
        self.assert_mended(book, 2, [8])
        self.assert_mended(book, 3, None)

    def test_runs_that_are_full(self):
        book = book_to_mend(1)
        book.journey("y", "b", "c", [7])
        self.assert_mended(book, 0, [0, 6])
        book.journey("z", "b", "d", [6])
        self.assert_mended(book, 0, [0, 3, 4])
        self.assert_mended(book, -1, [5])
        book.journey("w", "a", "d", [5])
        self.assert_mended(book, -1, [0, 3, 4])
        book.drop("y")
        self.assert_mended(book, -1, [0, 7, 2])

    def test_its_own_runs_though_full(self):
        book = four_places(Book())
        for row in (("a", "b", 0, 100, 1), ("b", "c", 110, 200, 1), ("c", "d", 210, 300, 1), ("b", "c", 115, 205, 1)):
            book.run(*row)
        book.journey("x", "a", "d", [0, 1, 2])
        book.news(1, 0, "gone", 0)
        self.assertEqual([book.free(run) for run in range(4)], [0, 0, 0, 1])
        self.assert_mended(book, -1, [0, 3, 2])
        self.assert_mended(book, 0, [0, 3, 2])

    def test_a_gone_run_of_its_own_is_not_taken(self):
        for now in (-1, 0):
            self.assertNotIn(1, book_to_mend(1).mended("x", now))
        self.assert_mended(book_to_mend(0, 1, 2, 3, 4, 5, 6, 7), -1, None)

    def test_kept_are_its_other_legs(self):
        book = book_to_mend(1, 7)
        # With 1 and 7 gone [5] and [0, 6] have one run each that is not kept; 5 comes sooner.
        self.assert_mended(book, -1, [5])
        book.news(5, 0, "slip", 101)
        self.assert_mended(book, -1, [0, 6])
        book.news(5, 1, "slip", 100)
        self.assert_mended(book, -1, [5])

    def test_shared_are_those_that_it_shares_with_any_journey(self):
        book = book_to_mend(1, 7)
        book.journey("y", "c", "d", [2])
        self.assert_mended(book, -1, [5])
        book.share("x", "y", 2)
        # Nothing leads over 2 any more: 3 comes too late for it.
        self.assert_mended(book, -1, [5])
        book.run("b", "c", 120, 210, 1)
        self.assert_mended(book, -1, [0, 8, 2])
        book.unshare("y", "x", 2)
        book.news(5, 5, "slip", 0)
        self.assert_mended(book, -1, [0, 8, 2])

    def test_a_shared_leg_goes_ahead_of_fewer_unkept_ones(self):
        book = four_places(Book())
        for row in (("a", "b", 0, 10, 9), ("b", "d", 20, 30, 9), ("a", "d", 0, 15, 9), ("a", "c", 0, 5, 9),
                    ("c", "b", 5, 9, 9)):
            book.run(*row)
        book.journey("x", "a", "d", [0, 1])
        book.journey("y", "b", "d", [1])
        book.news(0, 0, "gone", 0)
        self.assert_mended(book, -1, [2])
        book.share("y", "x", 1)
        self.assert_mended(book, -1, [3, 4, 1])
        self.assert_mended(book, 0, None)

    def test_where_the_legs_that_stay_end_at_the_goal_nothing_more_comes(self):
        book = four_places(Book())
        for row in (("a", "b", 0, 10, 9), ("b", "c", 20, 30, 9), ("c", "b", 30, 40, 9)):
            book.run(*row)
        book.journey("x", "a", "b", [0, 1, 2])
        book.journey("y", "a", "a", [])
        book.news(2, 0, "gone", 0)
        self.assert_mended(book, 0, [0])
        self.assert_mended(book, -1, [0])
        self.assert_mended(book, 19, [0])
        self.assert_mended(book, 20, None)

    def test_a_journey_back_to_its_start(self):
        book = four_places(Book())
        for row in (("a", "b", 0, 10, 9), ("b", "a", 20, 30, 9)):
            book.run(*row)
        book.journey("x", "a", "a", [0, 1])
        book.news(1, 0, "gone", 0)
        self.assertEqual(book.mended("x", -1), [])
        self.assertEqual(book.mended("x", 0), None)

    def test_no_journey_goes_ahead_of_no_way(self):
        book = book_to_mend(1)
        self.refused(NoJourney, book.mend, "y", 500)
        self.refused(NoJourney, book.mended, "y", 500)
        self.refused(NoWay, book.mend, "x", 500)

    def test_moments_of_forty_figures(self):
        self.assert_mended(book_to_mend(1), -FAR, [0, 7, 2])
        self.assert_mended(book_to_mend(1), FAR, None)


class AnyMendTests(unittest.TestCase):
    def test_against_all_rows(self):
        chance = random.Random(41)
        found = {}
        for turn in range(250):
            book, plain = Book(), PlainBook()
            deeds = [("place", name, 0, chance.choice((0, 0, 5))) for name in "abcd"]
            for number in range(chance.randint(4, 11)):
                leaves = 10 * chance.randint(0, 12)
                times = (leaves, leaves + chance.choice((5, 10, 20)))
                deeds.append(("run",) + tuple(chance.sample("abcd", 2)) + times + (2,))
            for deed in deeds:
                getattr(book, deed[0])(*deed[1:])
                plain.do(deed)
            self.book_any(chance, book, plain)
            for news in range(chance.randint(1, 4)):
                run, word = chance.randrange(book.many()), chance.choice((("gone", 0), ("slip", 5), ("slip", 30)))
                book.news(run, news, *word)
                plain.do(("news", run, news) + word)
            for name in plain.now["journey"]:
                for now in [-1, 500] + [ride[3] - 1 + chance.randint(0, 2) for ride in plain.stands(name)]:
                    told = plain.mended(name, now)
                    self.assertEqual(book.mended(name, now), told)
                    kind = "none" if told is None else len(told)
                    found[kind] = found.get(kind, 0) + 1
        self.assertTrue(all(found.get(kind, 0) > 5 for kind in ("none", 0, 1, 2, 3)), found)

    def book_any(self, chance, book, plain):
        """Books journeys by rows of runs that hang on one another, and shares of them."""
        spans = plain.spans()
        for name in ("x", "y", "z"):
            legs = [chance.randrange(book.many())]
            for step in range(3):
                last = plain.goes(legs[-1])
                after = [run for run in range(book.many())
                         if plain.told(run)[0] == last[2] and plain.told(run)[2] >= last[4] + spans[last[2]]]
                legs += [chance.choice(after)] if after and chance.random() < 0.9 else []
            start, goal = plain.told(legs[0])[0], plain.told(legs[-1])[1]
            if all(plain.free(run) > 0 for run in legs):
                book.journey(name, start, goal, legs)
                plain.do(("journey", name, start, goal, legs))
        rows = list(plain.now["journey"].items())
        for one, (start, goal, legs) in rows:
            for other, (other_start, other_goal, other_legs) in rows:
                for run in legs:
                    if one < other and run in other_legs and chance.random() < 0.7:
                        book.share(one, other, run)
                        plain.do(("share", one, other, run))


if __name__ == "__main__":
    unittest.main()
