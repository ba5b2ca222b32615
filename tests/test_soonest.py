"""Points [1], [7], [8] and [9]: soonest moments, and papers that nothing leads to a goal."""

import copy
import random
import time
import unittest

from oracle import all_rows, holds_by_words, rows_to, soonest_by_rows
from wayhold.soonest import bars, no_way, soonest

FAR = 10 ** 39 + 4321
PLACES = ("aa", "b7", "cc", "dd", "zz")


def any_case(chance, many):
    """Rides, spans, start and moment: numbers with holes, many moments alike, some of forty figures."""
    places = PLACES[:chance.randint(2, 5)]
    begin = chance.choice((0, -25, 3000, FAR, -FAR))
    spans = {place: chance.choice((0, 0, 1, 2, 5, 10 ** 9)) for place in places}
    numbers = chance.sample(range(-5, 60), many)
    rides = []
    for number in numbers:
        start, goal = chance.sample(places, 2) if chance.random() < 0.95 else places[:1] * 2
        leaves = begin + chance.randint(0, 12)
        rides.append((number, start, goal, leaves, leaves + chance.choice((1, 1, 2, 3, 6))))
    return rides, spans, chance.choice(places), begin + chance.randint(-2, 5)


def cases(seed, turns):
    chance = random.Random(seed)
    for turn in range(turns):
        yield chance, any_case(chance, turn % 10)


def two_each(hops, span=0, far=0):
    """A chain of places with two rides from each to the next one: 2 ** hops rows lead to the last one."""
    places = ["p%d" % at for at in range(hops + 1)]
    rides = []
    for at in range(hops):
        leaves = far + 10 * at
        rides.append((2 * at, places[at], places[at + 1], leaves, leaves + 9 - span))
        rides.append((2 * at + 1, places[at], places[at + 1], leaves, leaves + 10 - span))
    return rides, {place: span for place in places}, places


class SoonestTests(unittest.TestCase):
    def assert_soonest(self, rides, spans, start, since, pairs):
        handed = copy.deepcopy((rides, spans))
        told = soonest(rides, spans, start, since)
        self.assertIs(type(told), list)
        self.assertTrue(all(type(pair) is tuple and type(pair[1]) is int for pair in told))
        self.assertEqual(told, pairs)
        self.assertEqual((rides, spans), handed)
        self.assertEqual(list(spans.items()), list(handed[1].items()))

    def test_written_out(self):
        spans = {"aa": 5, "bb": 10, "cc": 0}
        one, two, three = (0, "aa", "bb", 0, 20), (1, "bb", "cc", 30, 50), (2, "bb", "cc", 29, 40)
        self.assert_soonest([], spans, "aa", 7, [("aa", 7)])
        self.assert_soonest([one], spans, "aa", 0, [("aa", 0), ("bb", 30)])
        self.assert_soonest([one], spans, "aa", 1, [("aa", 1)])
        self.assert_soonest([one, two, three], spans, "aa", -3, [("aa", -3), ("bb", 30), ("cc", 50)])
        self.assert_soonest([one, two, three], spans, "bb", 29, [("bb", 29), ("cc", 40)])

    def test_the_first_ride_needs_no_change(self):
        self.assert_soonest([(0, "aa", "bb", 0, 1)], {"aa": 1000, "bb": 2}, "aa", 0, [("aa", 0), ("bb", 3)])

    def test_the_start_keeps_its_moment_where_rows_lead_back(self):
        rides = [(0, "aa", "bb", 3, 4), (1, "bb", "aa", 4, 6)]
        self.assert_soonest(rides, {"aa": 0, "bb": 0}, "aa", 2, [("aa", 2), ("bb", 4)])

    def test_a_later_leaving_may_come_sooner(self):
        rides = [(0, "aa", "bb", 0, 50), (1, "aa", "bb", 5, 20), (2, "bb", "cc", 20, 21)]
        self.assert_soonest(rides, {"aa": 0, "bb": 0, "cc": 0}, "aa", 0, [("aa", 0), ("bb", 20), ("cc", 21)])

    def test_places_are_told_in_order_of_texts(self):
        rides = [(0, "b", "a10", 0, 1), (1, "b", "a9", 0, 1), (2, "b", "c", 0, 1)]
        spans = {"c": 0, "b": 0, "a9": 0, "a10": 0}
        self.assert_soonest(rides, spans, "b", 0, [("a10", 1), ("a9", 1), ("b", 0), ("c", 1)])

    def test_against_all_rows_in_either_order(self):
        lengths = set()
        for chance, (rides, spans, start, since) in cases(1, 3000):
            pairs = soonest_by_rows(rides, spans, start, since)
            self.assert_soonest(rides, spans, start, since, pairs)
            self.assert_soonest(rides[::-1], spans, start, since, pairs)
            lengths |= {len(row) for row in all_rows(rides, spans, start, since)}
        self.assertTrue(lengths.issuperset((1, 2, 3, 4, 5)))

    def test_told_lists_are_new_ones(self):
        rides, spans = [(0, "aa", "bb", 0, 20)], {"aa": 0, "bb": 0}
        told = soonest(rides, spans, "aa", 0)
        told.append(("cc", 1))
        told[0] = None
        self.assertEqual(soonest(rides, spans, "aa", 0), [("aa", 0), ("bb", 20)])

    def test_arguments_by_name(self):
        self.assertEqual(soonest(rides=[], spans={"aa": 0}, start="aa", since=4), [("aa", 4)])
        self.assertEqual(no_way(rides=[], spans={"aa": 0}, start="aa", goal="bb", since=4), [("aa", 4)])
        self.assertIs(bars(rides=[], spans={"aa": 0}, start="aa", goal="bb", since=4, paper=[("aa", 4)]), True)


class NoWayTests(unittest.TestCase):
    def test_none_just_where_a_row_leads_there_else_a_paper_that_holds(self):
        led = barred = 0
        for chance, (rides, spans, start, since) in cases(2, 1500):
            for goal in PLACES + ("nowhere",):
                handed = copy.deepcopy((rides, spans))
                paper = no_way(rides, spans, start, goal, since)
                if rows_to(rides, spans, start, goal, since):
                    self.assertIs(paper, None)
                    led += 1
                else:
                    self.assertIs(type(paper), list)
                    self.assertTrue(all(type(pair) is tuple and len(pair) == 2 for pair in paper))
                    self.assertTrue(holds_by_words(rides, spans, start, goal, since, paper))
                    self.assertIs(bars(rides, spans, start, goal, since, paper), True)
                    barred += 1
                self.assertEqual((rides, spans), handed)
        self.assertTrue(led > 1000 and barred > 1000)

    def test_start_and_goal_the_same(self):
        for rides in ([], [(0, "aa", "bb", 0, 1)], [(0, "aa", "bb", 0, 1), (1, "bb", "aa", 1, 2)]):
            self.assertIs(no_way(rides, {"aa": 0, "bb": 0}, "aa", "aa", 5), None)
            for paper in ([], [("aa", 5)], [("aa", 0), ("bb", 0)], [("bb", 1)]):
                self.assertIs(bars(rides, {"aa": 0, "bb": 0}, "aa", "aa", 5, paper), False)

    def test_told_papers_are_new_ones(self):
        rides, spans = [(0, "aa", "bb", 0, 20)], {"aa": 0, "bb": 0, "cc": 0}
        told = no_way(rides, spans, "aa", "cc", 0)
        told.clear()
        self.assertTrue(holds_by_words(rides, spans, "aa", "cc", 0, no_way(rides, spans, "aa", "cc", 0)))


def bent_papers(chance, paper, places):
    """The paper, and the paper bent in each way that the tests know."""
    found = [list(paper), [], paper[::-1], paper + [("nowhere", 0)], [("nowhere", 0)] + paper]
    for at, (place, moment) in enumerate(paper):
        rest = paper[:at] + paper[at + 1:]
        found += [rest, paper + [(place, moment)], paper + [(place, moment + 1)], [(place, moment - 1)] + paper]
        for step in (-10 ** 9, -2, -1, 1, 2, 10 ** 9, FAR, -FAR):
            found.append(rest[:at] + [(place, moment + step)] + rest[at:])
        found.append(rest + [(chance.choice(places), moment)])
    return found


class BarsTests(unittest.TestCase):
    spans = {"aa": 5, "bb": 10, "cc": 0, "dd": 7}
    rides = [(4, "aa", "bb", 0, 20), (2, "bb", "cc", 29, 60)]

    def assert_bars(self, paper, told, since=0, goal="dd"):
        self.assertIs(bars(self.rides, self.spans, "aa", goal, since, paper), told)
        self.assertIs(bars(self.rides[::-1], self.spans, "aa", goal, since, paper[::-1]), told)

    def test_each_sentence_by_itself(self):
        self.assert_bars([("aa", 0), ("bb", 30)], True)
        self.assert_bars([("aa", 0), ("bb", 30)], True, goal="cc")
        self.assert_bars([("aa", 0), ("bb", 30)], False, goal="bb")
        self.assert_bars([("aa", 1), ("bb", 30)], False)
        self.assert_bars([("aa", 1), ("bb", 30)], True, since=1)
        self.assert_bars([("aa", 1)], True, since=1)
        self.assert_bars([("aa", -1), ("bb", 30)], True)
        self.assert_bars([("bb", 30)], False)
        self.assert_bars([("aa", 0)], False)
        self.assert_bars([("aa", 0), ("bb", 31)], False)
        self.assert_bars([("aa", 0), ("bb", 29)], False)
        self.assert_bars([("aa", 0), ("bb", 29), ("cc", 60)], True)
        self.assert_bars([("aa", 0), ("bb", 29), ("cc", 61)], False)
        self.assert_bars([("aa", 0), ("bb", -FAR), ("cc", -FAR)], True)
        self.assert_bars([], False)

    def test_a_place_twice_does_not_hold(self):
        self.assert_bars([("aa", 0), ("aa", 0), ("bb", 30)], False)
        self.assert_bars([("aa", 0), ("bb", 30), ("bb", 31)], False)
        self.assert_bars([("aa", 0), ("bb", 31), ("bb", 30)], False)
        self.assert_bars([("aa", 0), ("bb", 30), ("nowhere", 3), ("nowhere", 3)], False)

    def test_a_place_that_is_none_makes_no_difference(self):
        self.assert_bars([("aa", 0), ("bb", 30), ("nowhere", 3)], True)
        self.assert_bars([("nowhere", 3)], False)

    def test_bent_papers_against_the_words_and_all_rows(self):
        found = {True: 0, False: 0}
        for chance, (rides, spans, start, since) in cases(3, 400):
            goal = chance.choice([place for place in PLACES if place != start])
            papers = bent_papers(chance, soonest(rides, spans, start, since), PLACES)
            leads = rows_to(rides, spans, start, goal, since)
            for paper in papers:
                handed = copy.deepcopy((rides, spans, paper))
                told = bars(rides, spans, start, goal, since, paper)
                self.assertIs(told, holds_by_words(rides, spans, start, goal, since, paper))
                self.assertFalse(told and leads)
                self.assertEqual((rides, spans, paper), handed)
                found[told] += 1
        self.assertTrue(found[True] > 500 and found[False] > 500)

    def test_any_papers(self):
        held = 0
        for chance, (rides, spans, start, since) in cases(4, 3000):
            goal = chance.choice(PLACES)
            moments = [ride[3] for ride in rides] + [ride[4] + spans[ride[2]] for ride in rides] + [since]
            some = chance.sample([place for place in PLACES if place != start], chance.randint(0, 4))
            paper = [(place, chance.choice(moments) + chance.choice((0, 0, -1, 1))) for place in some]
            paper.insert(chance.randint(0, len(paper)), (start, since + chance.choice((0, 0, 0, -1, 1))))
            told = bars(rides, spans, start, goal, since, paper)
            self.assertIs(told, holds_by_words(rides, spans, start, goal, since, paper))
            self.assertFalse(told and rows_to(rides, spans, start, goal, since))
            held += told
        self.assertTrue(held > 100)


class ManyRowsTests(unittest.TestCase):
    """Two to the power of twenty rows and more; the answers still come at once."""

    def setUp(self):
        self.began = time.monotonic()

    def tearDown(self):
        self.assertLess(time.monotonic() - self.began, 2)

    def test_a_chain_of_twenty_hops(self):
        for span, far in ((0, 0), (3, FAR), (9, -FAR)):
            rides, spans, places = two_each(20, span, far)
            for listed in (rides, rides[::-1]):
                pairs = [(places[0], far)] + [(places[at], far + 10 * at - 1) for at in range(1, 21)]
                self.assertEqual(soonest(listed, spans, places[0], far), sorted(pairs))
                self.assertIs(no_way(listed, spans, places[0], places[20], far), None)
                paper = no_way(listed, spans, places[0], "nowhere", far)
                self.assertIs(bars(listed, spans, places[0], "nowhere", far, paper), True)
                self.assertTrue(holds_by_words(listed, spans, places[0], "nowhere", far, paper))

    def test_to_and_fro_between_two_places(self):
        for many in (24, 32, 40):
            rides = [(at, "ab"[at % 2], "ba"[at % 2], at, at + 1) for at in range(many)]
            spans = {"a": 0, "b": 0, "c": 0}
            self.assertEqual(soonest(rides, spans, "a", 0), [("a", 0), ("b", 1)])
            self.assertEqual(soonest(rides, spans, "a", 1), [("a", 1), ("b", 3)])
            self.assertEqual(soonest(rides[::-1], spans, "b", 4), [("a", 6), ("b", 4)])
            paper = no_way(rides, spans, "a", "c", 0)
            self.assertIs(bars(rides, spans, "a", "c", 0, paper), True)
            self.assertIs(bars(rides, spans, "a", "b", 0, paper), False)


if __name__ == "__main__":
    unittest.main()
