"""Points [1], [7] and [10]: the least change."""

import copy
import random
import time
import unittest

from oracle import all_rows, hangs_by_words, least_by_reach, least_by_rows, rows_to
from wayhold.plans import least_change

FAR = 10 ** 39 + 4321
PLACES = ("aa", "b7", "cc", "dd", "zz")


def any_rides(chance, many, places, begin, width):
    """Rides with holes in their numbers, many moments alike."""
    rides = []
    for number in chance.sample(range(-9, 90), many):
        start, goal = chance.sample(places, 2) if chance.random() < 0.97 else places[:1] * 2
        leaves = begin + chance.randint(0, width)
        rides.append((number, start, goal, leaves, leaves + chance.choice((1, 1, 2, 3, 6))))
    return rides


def any_numbers(chance, rides):
    """Some numbers of rides, and some of none, each once, in any order."""
    numbers = [ride[0] for ride in rides if chance.random() < 0.5]
    numbers += chance.sample(range(100, 110), chance.randint(0, 2))
    chance.shuffle(numbers)
    return numbers if chance.random() < 0.8 else []


def any_case(chance, many):
    places = PLACES[:chance.randint(2, 5)]
    begin = chance.choice((0, -25, 3000, FAR, -FAR))
    spans = {place: chance.choice((0, 0, 1, 2, 10 ** 9)) for place in places}
    rides = any_rides(chance, many, places, begin, 12)
    start, goal, since = chance.choice(places), chance.choice(places), begin + chance.randint(-2, 3)
    return rides, spans, start, goal, since, any_numbers(chance, rides), any_numbers(chance, rides)


class LeastChangeTests(unittest.TestCase):
    spans = {"aa": 0, "bb": 0, "cc": 0, "dd": 0}

    def assert_least(self, rides, kept, shared, numbers, start="aa", goal="dd", since=0):
        """In every order of what is handed in, and nothing of it changed."""
        for step in (1, -1):
            handed = (rides[::step], dict(self.spans), start, goal, since, kept[::step], shared[::step])
            kept_whole = copy.deepcopy(handed)
            told = least_change(*handed)
            self.assertEqual(told, numbers)
            self.assertIn(type(told), (list, type(None)))
            self.assertEqual(handed, kept_whole)

    def test_none_where_no_row_leads_there(self):
        self.assert_least([], [], [], None)
        self.assert_least([(0, "aa", "bb", 0, 1), (1, "bb", "dd", 0, 1)], [0, 1], [0, 1], None)
        self.assert_least([(0, "aa", "dd", -1, 5)], [], [], None)
        self.assert_least([(0, "aa", "dd", -1, 5)], [], [], [0], since=-1)
        self.assert_least([(0, "aa", "dd", 4, 5)], [], [], None, goal="nowhere")

    def test_start_and_goal_the_same(self):
        rides = [(3, "aa", "bb", 0, 1), (5, "bb", "aa", 1, 2), (6, "bb", "aa", 1, 3), (7, "aa", "cc", 2, 3)]
        self.assert_least([], [], [], [], goal="aa")
        self.assert_least(rides, [], [], [], goal="aa")
        self.assert_least(rides, [3, 5, 6, 7], [], [], goal="aa")
        self.assert_least(rides, [], [5], [3, 5], goal="aa")
        self.assert_least(rides, [3], [6], [3, 6], goal="aa")
        self.assert_least(rides, [], [3], [3, 5], goal="aa")
        self.assert_least(rides, [], [7], [], goal="aa")
        self.assert_least(rides, [], [3], [], goal="aa", since=1)

    def test_most_shared_goes_ahead_of_all_else(self):
        straight = [(0, "aa", "dd", 0, 1)]
        about = [(1, "aa", "bb", 0, 5), (2, "bb", "cc", 5, 9), (3, "cc", "dd", 9, 20)]
        self.assert_least(straight + about, [0], [3], [1, 2, 3])
        self.assert_least(straight + about, [0], [0, 3], [0])
        self.assert_least(straight + about, [0], [0, 1, 3], [1, 2, 3])
        self.assert_least(straight + about, [0], [77], [0])

    def test_fewest_not_kept_goes_ahead_of_coming(self):
        rides = [(0, "aa", "dd", 0, 1), (1, "aa", "bb", 0, 5), (2, "bb", "cc", 5, 9), (3, "cc", "dd", 9, 20)]
        self.assert_least(rides, [1, 2, 3], [], [1, 2, 3])
        self.assert_least(rides, [1, 2], [], [0])
        self.assert_least(rides, [1, 2, 77], [], [0])
        self.assert_least(rides, [], [], [0])
        more = [(4, "aa", "dd", 0, 3), (5, "aa", "dd", 0, 2)]
        self.assert_least(more, [4], [], [4])
        self.assert_least(more, [4], [4, 5], [4])

    def test_soonest_goes_ahead_of_fewest_rides(self):
        rides = [(0, "aa", "dd", 0, 10), (1, "aa", "bb", 0, 5), (2, "bb", "dd", 5, 9)]
        self.assert_least(rides, [0, 1, 2], [], [1, 2])
        self.assert_least(rides, [0, 1, 2], [0, 2], [1, 2])
        self.assert_least(rides + [(3, "aa", "dd", 8, 9)], [0, 1, 2, 3], [], [3])

    def test_fewest_rides_go_ahead_of_numbers(self):
        rides = [(9, "aa", "dd", 0, 9), (1, "aa", "bb", 0, 5), (2, "bb", "dd", 5, 9)]
        self.assert_least(rides, [9, 1, 2], [], [9])
        self.assert_least(rides, [9, 1, 2], [9, 1], [9])

    def test_numbers_in_order_at_last(self):
        rides = [(9, "aa", "bb", 0, 1), (10, "aa", "bb", 0, 1), (4, "bb", "dd", 1, 2), (3, "bb", "dd", 1, 2)]
        self.assert_least(rides, [], [], [9, 3])
        self.assert_least(rides, [9, 10, 3, 4], [3, 4], [9, 3])
        self.assert_least(rides + [(-2, "aa", "bb", 0, 1)], [], [], [-2, 3])
        about = [(7, "aa", "bb", 0, 1), (8, "bb", "dd", 1, 2), (6, "aa", "cc", 0, 1), (99, "cc", "dd", 1, 2)]
        self.assert_least(about, [], [], [6, 99])

    def test_the_first_ride_needs_no_change_and_the_next_ones_do(self):
        rides = [(0, "aa", "bb", 0, 1), (1, "bb", "dd", 3, 4), (2, "bb", "dd", 4, 9)]
        for span, numbers in ((2, [0, 1]), (3, [0, 2]), (4, None)):
            spans = {"aa": 99, "bb": span, "dd": 99}
            self.assertEqual(least_change(rides, spans, "aa", "dd", 0, [], []), numbers)

    def test_against_all_rows(self):
        chance = random.Random(21)
        seen = {}
        for turn in range(6000):
            case = any_case(chance, turn % 10)
            handed = copy.deepcopy(case)
            numbers = least_by_rows(*case)
            self.assertEqual(least_change(*case), numbers)
            self.assertEqual(case, handed)
            rides, spans, start, goal, since, kept, shared = case
            turned = (rides[::-1], spans, start, goal, since, kept[::-1], shared[::-1])
            self.assertEqual(least_change(*turned), numbers)
            length = None if numbers is None else len(numbers)
            seen[length] = seen.get(length, 0) + 1
        self.assertTrue(all(seen.get(length, 0) > 20 for length in (None, 0, 1, 2, 3)), seen)

    def test_each_measure_decides_by_itself(self):
        """Of the rows that are alike by all measures ahead of one, that one tells the best from others."""
        chance = random.Random(22)
        decided = [0] * 5
        for turn in range(4000):
            rides, spans, start, goal, since, kept, shared = case = any_case(chance, 5 + turn % 5)
            told = least_change(*case)
            best = None
            rows = rows_to(rides, spans, start, goal, since)
            for row in rows:
                numbers = [ride[0] for ride in row]
                comes = row[-1][4] if row else since
                worth = (
                    -len(set(numbers) & set(shared)), len(set(numbers) - set(kept)), comes, len(numbers), numbers)
                if best is not None:
                    at = [one == other for one, other in zip(worth, best)].index(False)
                    decided[at] += 1
                best = worth if best is None else min(best, worth)
            self.assertEqual(told, best and best[4])
        self.assertTrue(min(decided) > 5, decided)

    def test_told_lists_are_new_ones(self):
        rides = [(0, "aa", "bb", 0, 1), (1, "bb", "dd", 1, 2)]
        for goal, numbers in (("dd", [0, 1]), ("aa", [])):
            told = least_change(rides, self.spans, "aa", goal, 0, [], [])
            told.append(5)
            told[0] = 7
            self.assertEqual(least_change(rides, self.spans, "aa", goal, 0, [], []), numbers)

    def test_lists_handed_in_are_not_kept(self):
        rides, kept, shared = [(0, "aa", "dd", 0, 1), (1, "aa", "dd", 0, 1)], [1], []
        told = least_change(rides, self.spans, "aa", "dd", 0, kept, shared)
        kept.clear()
        self.assertEqual(told, [1])
        self.assertEqual(least_change(rides, self.spans, "aa", "dd", 0, kept, shared), [0])
        shared.append(1)
        self.assertEqual(least_change(rides, self.spans, "aa", "dd", 0, kept, shared), [1])

    def test_arguments_by_name(self):
        told = least_change(rides=[], spans={"aa": 0}, start="aa", goal="aa", since=0, kept=[], shared=[])
        self.assertEqual(told, [])


class ManyRowsTests(unittest.TestCase):
    """Two to the power of twenty rows and more."""

    def timed(self, *case):
        began = time.monotonic()
        told = least_change(*case)
        self.assertLess(time.monotonic() - began, 1)
        return told

    def test_a_chain_of_twenty_hops(self):
        """On each hop two rides leave and come alike: the shared one goes first, then the kept one, then the lesser."""
        chance = random.Random(23)
        places = ["p%d" % at for at in range(21)]
        for turn in range(40):
            far, span = chance.choice((0, FAR, -FAR)), chance.choice((0, 4))
            rides, kept, shared, numbers = [], [], [], []
            for at in range(20):
                pair = chance.sample(range(10 * at, 10 * at + 10), 2)
                leaves = far + 10 * at
                rides += [(number, places[at], places[at + 1], leaves, leaves + 10 - span) for number in pair]
                worths = []
                for number in pair:
                    is_shared, is_kept = chance.random() < 0.4, chance.random() < 0.4
                    shared += [number] if is_shared else []
                    kept += [number] if is_kept else []
                    worths.append((not is_shared, not is_kept, number))
                numbers.append(min(worths)[2])
            chance.shuffle(rides)
            case = (rides, {place: span for place in places}, "p0", "p20", far, kept, shared)
            self.assertEqual(self.timed(*case), numbers)
            self.assertEqual(least_by_reach(*case), numbers)

    def test_to_and_fro(self):
        rides = [(at, "ab"[at % 2], "ba"[at % 2], at, at + 1) for at in range(40)]
        spans = {"a": 0, "b": 0}
        numbers = [number for number in range(40)]
        self.assertEqual(self.timed(rides, spans, "a", "a", 0, [], []), [])
        self.assertEqual(self.timed(rides, spans, "a", "a", 0, [], numbers), numbers)
        self.assertEqual(self.timed(rides, spans, "a", "b", 0, [], numbers), numbers[:39])
        self.assertEqual(self.timed(rides, spans, "a", "b", 0, [], [3]), [0, 3, 4])
        self.assertEqual(self.timed(rides, spans, "a", "b", 0, [2, 3, 4], [3]), [2, 3, 4])
        self.assertEqual(self.timed(rides, spans, "b", "b", 0, numbers, [39]), [])
        self.assertEqual(self.timed(rides, spans, "b", "a", 0, numbers, [39]), [39])

    def test_any_rides_against_all_that_rows_reach(self):
        chance = random.Random(24)
        longest = 0
        for turn in range(60):
            places = PLACES[:chance.randint(2, 5)]
            begin = chance.choice((0, FAR, -FAR))
            spans = {place: chance.choice((0, 0, 1, 2)) for place in places}
            rides = any_rides(chance, 24 + turn % 17, places, begin, 60)
            case = (rides, spans, places[0], places[-1], begin, any_numbers(chance, rides), any_numbers(chance, rides))
            numbers = least_by_reach(*case)
            self.assertEqual(self.timed(*case), numbers)
            longest = max(longest, len(numbers or []))
        self.assertTrue(longest > 7, longest)

    def test_the_two_ways_of_reckoning_agree_on_few_rides(self):
        chance = random.Random(25)
        for turn in range(500):
            case = any_case(chance, turn % 10)
            self.assertEqual(least_by_reach(*case), least_by_rows(*case))

    def test_there_are_so_many_rows(self):
        rides = [(at, "ab"[at % 2], "ba"[at % 2], at, at + 1) for at in range(40)]
        spans = {"a": 0, "b": 0}
        self.assertTrue(len(all_rows(rides[:16], spans, "a", 0)) > 500)
        rows = {}
        for ride in reversed(rides):
            rows[ride] = 1 + sum(rows[after] for after in rides if hangs_by_words(ride, after, spans))
        self.assertTrue(sum(rows[ride] for ride in rides if ride[1] == "a") > 2 ** 20)


if __name__ == "__main__":
    unittest.main()
