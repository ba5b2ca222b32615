"""Points [1], [4], [5] and [6]: rides, what hangs on what, faults, spares and waits."""

import copy
import random
import unittest

from wayhold.rides import first_fault, hangs, later, ridden, spare, standing, waits

FAR = 10 ** 39 + 12345
FARTHEST = 10 ** 59 + 12345
SPANS = {"aa": 5, "bb": 0, "cc": 30, "dd": 10 ** 9}
PLACES = tuple(SPANS)


def ride_behind(chance, number, ride, spans, more=0):
    """A ride that hangs on the one ahead with so many minutes to spare."""
    start = ride[2]
    goal = chance.choice([place for place in PLACES if place != start])
    leaves = ride[4] + spans[start] + more
    return (number, start, goal, leaves, leaves + chance.randint(1, 300))


def whole_row(chance, many, spans, begin=0):
    """A list of so many rides of which each hangs on the one ahead."""
    rides = []
    for number in range(many):
        if rides:
            rides.append(ride_behind(chance, number, rides[-1], spans, chance.choice((0, 0, 1, 2, 500))))
        else:
            start, goal = chance.sample(PLACES, 2)
            rides.append((number, start, goal, begin, begin + chance.randint(1, 300)))
    return rides


def faulty_row(chance, many, spans, begin):
    """A list whose rides may be gone, or missed by place or by moment."""
    rides = whole_row(chance, many, spans, begin)
    for turn in range(chance.randint(0, 3)):
        if rides:
            at = chance.randrange(len(rides))
            number, start, goal, leaves, comes = rides[at] or (at, "aa", "bb", begin, begin + 1)
            place = chance.choice([name for name in PLACES if name not in (start, goal)])
            rides[at] = chance.choice((
                None, (number, place, goal, leaves, comes), (number, start, goal, leaves - 1, comes),
                (number, start, goal, leaves, comes + 600), (number, start, place, leaves, comes),
            ))
    return rides


def hangs_by_words(ride, after, spans):
    if ride[2] != after[1]:
        return False
    ready = ride[4] + spans[ride[2]]
    return not after[3] < ready


def fault_by_words(rides, spans):
    """All faults of the list are gathered, and the first one is taken."""
    faults = [(at, "gone") for at, ride in enumerate(rides) if ride is None]
    for at in range(1, len(rides)):
        both = rides[at - 1], rides[at]
        if None not in both and not hangs_by_words(*both, spans):
            faults.append((at, "missed"))
    return min(faults) if faults else None


class LaterTests(unittest.TestCase):
    def test_forwards_backwards_and_by_nought(self):
        for begin in (0, -7, 40000, FAR, -FAR, FARTHEST):
            ride = (3, "aa", "bb", begin, begin + 90)
            for many in (0, 1, -1, 1440, -20000, FAR, -FAR, -FARTHEST):
                moved = later(ride, many)
                self.assertIs(type(moved), tuple)
                self.assertEqual(moved, (3, "aa", "bb", begin + many, begin + many + 90))
            self.assertEqual(ride, (3, "aa", "bb", begin, begin + 90))

    def test_there_and_back(self):
        ride = (FARTHEST, "aa", "dd", -5, 8)
        self.assertEqual(later(later(ride, 17), -17), ride)
        self.assertEqual(later(ride=ride, many=2), (FARTHEST, "aa", "dd", -3, 10))


class HangTests(unittest.TestCase):
    def test_it_leaves_just_when_it_can_and_a_minute_off(self):
        for span in (0, 1, 7, 1000, 10 ** 9, FAR):
            for comes in (0, -100, 5000, FAR, -FAR, FARTHEST):
                spans = {"aa": 3, "bb": span, "cc": 10 ** 12}
                ride = (0, "aa", "bb", comes - 10, comes)
                for step, told in ((-1, False), (0, True), (1, True), (5000, True), (-5000, False)):
                    leaves = comes + span + step
                    after = (1, "bb", "cc", leaves, leaves + 20)
                    self.assertIs(hangs(ride, after, spans), told)
                    self.assertIs(hangs(ride=ride, after=after, spans=spans), told)

    def test_a_ride_from_another_place_does_not_hang(self):
        spans = {"aa": 0, "bb": 5, "cc": 0}
        ride = (0, "aa", "bb", 0, 10)
        for start, goal in (("aa", "cc"), ("cc", "bb"), ("aa", "bb"), ("cc", "aa")):
            for leaves in (10, 15, 16, 10 ** 6, FAR):
                self.assertIs(hangs(ride, (1, start, goal, leaves, leaves + 1), spans), False)

    def test_the_span_is_that_of_the_place_of_the_change(self):
        ride, after = (0, "aa", "bb", 0, 10), (1, "bb", "cc", 15, 30)
        self.assertIs(hangs(ride, after, {"aa": 900, "bb": 5, "cc": 900}), True)
        self.assertIs(hangs(ride, after, {"aa": 0, "bb": 6, "cc": 0}), False)

    def test_numbers_make_no_difference(self):
        ride, after = (9, "aa", "bb", 0, 10), (2, "bb", "aa", 10, 30)
        self.assertIs(hangs(ride, after, {"aa": 0, "bb": 0}), True)

    def test_what_is_handed_in_stays(self):
        spans = {"aa": 3, "bb": 5}
        ride, after = (0, "aa", "bb", 0, 10), (1, "bb", "aa", 14, 20)
        self.assertIs(hangs(ride, after, spans), False)
        self.assertEqual((ride, after), ((0, "aa", "bb", 0, 10), (1, "bb", "aa", 14, 20)))
        self.assertEqual(list(spans.items()), [("aa", 3), ("bb", 5)])
        spans["bb"] = 4
        self.assertIs(hangs(ride, after, spans), True)


class FaultTests(unittest.TestCase):
    spans = {"aa": 5, "bb": 10, "cc": 0}
    first = (0, "aa", "bb", 0, 20)
    second = (1, "bb", "cc", 30, 50)
    third = (2, "cc", "aa", 50, 90)
    tight = (1, "bb", "cc", 29, 50)
    astray = (2, "bb", "aa", 500, 600)

    def assert_row(self, rides, fault):
        handed, spans = copy.deepcopy(rides), dict(self.spans)
        told = first_fault(rides, self.spans)
        self.assertEqual(told, fault)
        self.assertTrue(told is None or (type(told) is tuple and type(told[0]) is int))
        stood = rides[:fault[0]] if fault else rides[:]
        listed = standing(rides, self.spans)
        self.assertIs(type(listed), list)
        self.assertEqual(listed, stood)
        self.assertIsNot(listed, rides)
        self.assertEqual((rides, self.spans), (handed, spans))

    def test_lists_without_a_fault(self):
        self.assert_row([], None)
        self.assert_row([self.first], None)
        self.assert_row([self.first, self.second], None)
        self.assert_row([self.first, self.second, self.third], None)

    def test_a_ride_that_is_gone(self):
        self.assert_row([None], (0, "gone"))
        self.assert_row([None, self.second, self.third], (0, "gone"))
        self.assert_row([self.first, None, self.third], (1, "gone"))
        self.assert_row([self.first, self.second, None], (2, "gone"))

    def test_a_ride_that_is_missed(self):
        self.assert_row([self.first, self.tight], (1, "missed"))
        self.assert_row([self.first, self.tight, self.third], (1, "missed"))
        self.assert_row([self.first, self.second, self.astray], (2, "missed"))
        self.assert_row([self.first, self.third], (1, "missed"))

    def test_of_several_faults_the_first(self):
        self.assert_row([None, None], (0, "gone"))
        self.assert_row([self.first, self.tight, None], (1, "missed"))
        self.assert_row([self.first, None, self.astray], (1, "gone"))
        self.assert_row([self.first, self.tight, self.astray, None], (1, "missed"))
        self.assert_row([None, self.first, self.tight], (0, "gone"))

    def test_any_lists_of_up_to_seven(self):
        chance = random.Random(5)
        seen = set()
        for turn in range(1500):
            begin = chance.choice((0, -3000, FAR, -FAR))
            rides = faulty_row(chance, turn % 8, SPANS, begin)
            handed, spans = copy.deepcopy(rides), dict(SPANS)
            fault = fault_by_words(rides, SPANS)
            self.assertEqual(first_fault(rides, SPANS), fault)
            self.assertEqual(standing(rides, SPANS), rides[:fault[0]] if fault else rides)
            self.assertEqual((rides, SPANS), (handed, spans))
            seen.add(fault)
        words = [(0, "gone"), (3, "gone"), (6, "gone"), (1, "missed"), (3, "missed"), (6, "missed"), None]
        self.assertTrue(seen.issuperset(words))

    def test_told_lists_are_new_ones(self):
        for rides in ([self.first, self.second], [self.first, self.second, None], [], [None]):
            stood = [ride for ride in rides if ride]
            told = standing(rides, self.spans)
            told.append("x")
            told[0] = None
            self.assertEqual(standing(rides, self.spans), stood)

    def test_lists_that_were_handed_in_are_not_kept(self):
        rides = [self.first, self.second]
        told = standing(rides, self.spans)
        rides[1] = None
        self.assertEqual(told, [self.first, self.second])
        self.assertEqual(first_fault(rides, self.spans), (1, "gone"))

    def test_arguments_by_name(self):
        self.assertEqual(first_fault(rides=[None], spans={}), (0, "gone"))
        self.assertEqual(standing(rides=[None], spans={}), [])
        self.assertEqual(ridden(rides=[None], spans={}, now=0), 0)


class RiddenTests(unittest.TestCase):
    def test_at_ahead_of_and_behind_each_leaving(self):
        chance = random.Random(7)
        for turn in range(300):
            begin = chance.choice((0, -3000, FAR, -FAR))
            rides = faulty_row(chance, turn % 8, SPANS, begin)
            handed = copy.deepcopy(rides)
            fault = fault_by_words(rides, SPANS)
            stood = rides[:fault[0]] if fault else rides
            for ride in rides:
                if ride is not None:
                    for now in (ride[3] - 1, ride[3], ride[3] + 1):
                        told = ridden(rides, SPANS, now)
                        self.assertIs(type(told), int)
                        self.assertEqual(told, sum(1 for one in stood if one[3] <= now))
            self.assertEqual(rides, handed)

    def test_written_out(self):
        spans = {"aa": 5, "bb": 10, "cc": 0}
        rides = [(0, "aa", "bb", 0, 20), (1, "bb", "cc", 30, 50), (2, "cc", "aa", 49, 90)]
        for now, many in ((-1, 0), (0, 1), (1, 1), (29, 1), (30, 2), (31, 2), (49, 2), (FARTHEST, 2), (-FARTHEST, 0)):
            self.assertEqual(ridden(rides, spans, now), many)

    def test_no_ride(self):
        for rides in ([], [None], [None, (1, "aa", "bb", 0, 20)]):
            self.assertEqual(ridden(rides, {"aa": 0, "bb": 0}, 10 ** 6), 0)


class SpareTests(unittest.TestCase):
    def rows(self):
        chance = random.Random(11)
        for turn in range(400):
            yield whole_row(chance, turn % 8, SPANS, chance.choice((0, -3000, FAR, -FAR, FARTHEST)))

    def test_written_out(self):
        rides = [(0, "aa", "bb", 0, 20), (1, "bb", "cc", 37, 50), (2, "cc", "aa", 50, 90)]
        self.assertEqual(spare(rides, {"aa": 5, "bb": 10, "cc": 0}), [7, 0, None])
        self.assertEqual(spare(rides=rides, spans={"bb": 17, "cc": 0}), [0, 0, None])

    def test_none_and_one_ride(self):
        self.assertEqual(spare([], {}), [])
        self.assertEqual(spare([(0, "aa", "bb", 0, 20)], {"aa": 5, "bb": 10}), [None])

    def test_so_many_minutes_more_and_one_more_than_that(self):
        for rides in self.rows():
            handed, spans = copy.deepcopy(rides), dict(SPANS)
            told = spare(rides, SPANS)
            self.assertIs(type(told), list)
            self.assertEqual(len(told), len(rides))
            self.assertTrue(not told or told[-1] is None)
            for many, (number, start, goal, leaves, comes), after in zip(told, rides, rides[1:]):
                self.assertIs(type(many), int)
                self.assertTrue(hangs_by_words((number, start, goal, leaves, comes + many), after, SPANS))
                self.assertFalse(hangs_by_words((number, start, goal, leaves, comes + many + 1), after, SPANS))
            self.assertEqual((rides, SPANS), (handed, spans))

    def test_told_lists_are_new_ones(self):
        for rides in self.rows():
            for ask in (lambda: spare(rides, SPANS), lambda: waits(rides)):
                told = ask()
                kept = list(told)
                told.append("x")
                told[0] = "y"
                self.assertEqual(ask(), kept)


class WaitTests(unittest.TestCase):
    def test_written_out(self):
        rides = [(0, "aa", "bb", 0, 20), (1, "bb", "cc", 37, 50), (2, "cc", "aa", 50, 90)]
        self.assertEqual(waits(rides), [("bb", 20, 37), ("cc", 50, 50)])
        self.assertEqual(waits(rides=rides[:2]), [("bb", 20, 37)])

    def test_none_and_one_ride(self):
        self.assertEqual(waits([]), [])
        self.assertEqual(waits([(0, "aa", "bb", 0, 20)]), [])

    def test_goal_coming_and_the_next_leaving(self):
        chance = random.Random(13)
        for turn in range(200):
            rides = whole_row(chance, turn % 8, SPANS, chance.choice((0, -3000, FAR, -FAR)))
            handed = copy.deepcopy(rides)
            told = waits(rides)
            self.assertIs(type(told), list)
            self.assertEqual(len(told), max(0, len(rides) - 1))
            for at, wait in enumerate(told):
                self.assertIs(type(wait), tuple)
                self.assertEqual(wait, (rides[at][2], rides[at][4], rides[at + 1][3]))
            self.assertEqual(rides, handed)


if __name__ == "__main__":
    unittest.main()
