"""Points [1], [2] and [3]: clocks, days and nights."""

import random
import unittest

from wayhold.clocks import local, moment_of, nights

AHEADS = (0, 1, -1, 60, -60, 720, 900, -900, 1439, -1439, 1440, -1440, 1441, 10 ** 39 + 7, -10 ** 39 - 7)


def whole(thing):
    return type(thing) is int


def moments():
    """Small ones, ones near a day's end, ones below nought and long ones."""
    near = [day * 1440 + step for day in (-3, -2, -1, 0, 1, 2, 28) for step in (-2, -1, 0, 1, 2, 719, 720)]
    long = [sign * (10 ** size + step) for size in (9, 18, 19, 39, 49, 59) for sign in (1, -1) for step in (-1, 0, 1)]
    return near + long


def nights_by_hand(coming, leaving, ahead):
    """Walks the minutes behind the coming: a day ends where the clock shows the next one's minute 0."""
    found = []
    for moment in range(coming + 1, leaving + 1):
        if (moment + ahead) % 1440 == 0:
            found.append((moment + ahead) // 1440 - 1)
    return found


class LocalTests(unittest.TestCase):
    def test_days_and_minutes_written_out(self):
        rows = (
            (0, 0, (0, 0)), (1, 0, (0, 1)), (1439, 0, (0, 1439)), (1440, 0, (1, 0)), (1441, 0, (1, 1)),
            (-1, 0, (-1, 1439)), (-1440, 0, (-1, 0)), (-1441, 0, (-2, 1439)),
            (0, 60, (0, 60)), (0, -60, (-1, 1380)), (1400, 60, (1, 20)), (1460, -60, (0, 1400)),
            (-900, 900, (0, 0)), (900, -900, (0, 0)), (899, -900, (-1, 1439)), (40000, 900, (28, 580)),
        )
        for moment, ahead, shown in rows:
            with self.subTest(moment=moment, ahead=ahead):
                self.assertEqual(local(moment, ahead), shown)

    def test_a_pair_of_whole_numbers_that_is_the_moment_by_that_clock(self):
        for moment in moments():
            for ahead in AHEADS:
                shown = local(moment, ahead)
                self.assertIs(type(shown), tuple)
                self.assertEqual(len(shown), 2)
                day, minute = shown
                self.assertTrue(whole(day) and whole(minute))
                self.assertTrue(0 <= minute <= 1439)
                self.assertEqual(day * 1440 + minute, moment + ahead)

    def test_a_minute_more_is_the_next_minute(self):
        for moment in moments():
            for ahead in AHEADS:
                day, minute = local(moment, ahead)
                follows = (day, minute + 1) if minute < 1439 else (day + 1, 0)
                self.assertEqual(local(moment + 1, ahead), follows)

    def test_a_day_more_is_the_same_minute_of_the_next_day(self):
        for moment in moments():
            for ahead in AHEADS:
                day, minute = local(moment, ahead)
                self.assertEqual(local(moment + 1440, ahead), (day + 1, minute))

    def test_day_nought_begins_when_the_clock_is_at_nought(self):
        for ahead in AHEADS:
            self.assertEqual(local(-ahead, ahead), (0, 0))
            self.assertEqual(local(-ahead - 1, ahead), (-1, 1439))

    def test_arguments_by_name(self):
        self.assertEqual(local(moment=1400, ahead=60), (1, 20))


class MomentTests(unittest.TestCase):
    def test_moments_written_out(self):
        rows = ((0, 0, 0, 0), (1, 20, 60, 1400), (0, 1400, -60, 1460), (-1, 1439, 0, -1), (0, 0, 900, -900))
        for day, minute, ahead, moment in rows:
            self.assertEqual(moment_of(day, minute, ahead), moment)
        self.assertEqual(moment_of(day=1, minute=20, ahead=60), 1400)

    def test_it_leads_back(self):
        for moment in moments():
            for ahead in AHEADS:
                day, minute = local(moment, ahead)
                self.assertEqual(moment_of(day, minute, ahead), moment)
                self.assertTrue(whole(moment_of(day, minute, ahead)))

    def test_it_leads_there(self):
        for day in (-10 ** 45, -2, -1, 0, 1, 2, 10 ** 45):
            for minute in (0, 1, 720, 1438, 1439):
                for ahead in AHEADS:
                    self.assertEqual(local(moment_of(day, minute, ahead), ahead), (day, minute))


class NightTests(unittest.TestCase):
    def assert_nights(self, coming, leaving, ahead, days):
        told = nights(coming, leaving, ahead)
        self.assertIs(type(told), list)
        self.assertTrue(all(whole(day) for day in told))
        self.assertEqual(told, days, (coming, leaving, ahead))

    def test_nights_written_out(self):
        self.assert_nights(0, 1439, 0, [])
        self.assert_nights(0, 1440, 0, [0])
        self.assert_nights(1439, 1440, 0, [0])
        self.assert_nights(1440, 1441, 0, [])
        self.assert_nights(1439, 2880, 0, [0, 1])
        self.assert_nights(-1441, 0, 0, [-2, -1])
        self.assert_nights(1370, 1390, 60, [0])
        self.assert_nights(1430, 1450, -60, [])
        self.assert_nights(1490, 1500, -60, [0])

    def test_coming_and_leaving_the_same_moment_wait_no_night(self):
        for moment in moments():
            for ahead in AHEADS:
                self.assert_nights(moment, moment, ahead, [])

    def test_around_the_ends_of_days_by_clocks_ahead_and_behind(self):
        for ahead in (0, 1, -1, 60, -75, 720, 900, -900):
            for first in (-2, 0, 3):
                begins = first * 1440 - ahead
                for many in (0, 1, 2):
                    for early in (-1, 0, 1):
                        for late in (-1, 0, 1):
                            coming, leaving = begins + early, begins + many * 1440 + late
                            if coming <= leaving:
                                self.assert_nights(coming, leaving, ahead, nights_by_hand(coming, leaving, ahead))

    def test_any_moments(self):
        chance = random.Random(3)
        for turn in range(150):
            coming = chance.randint(-40000, 40000)
            leaving = coming + chance.choice((0, 1, 700, 1440, 4000, 9000))
            ahead = chance.randint(-900, 900)
            self.assert_nights(coming, leaving, ahead, nights_by_hand(coming, leaving, ahead))

    def test_ninety_days(self):
        for ahead in (0, 900, -900):
            begins = 5 * 1440 - ahead
            self.assert_nights(begins, begins + 90 * 1440, ahead, list(range(5, 95)))
            self.assert_nights(begins, begins + 90 * 1440 - 1, ahead, list(range(5, 94)))
            self.assert_nights(begins - 1, begins + 90 * 1440, ahead, list(range(4, 95)))

    def test_numbers_of_forty_and_sixty_figures(self):
        for size in (39, 59):
            for sign in (1, -1):
                for ahead in (0, 900, -900, sign * 10 ** size):
                    day = sign * 10 ** size // 1440
                    begins = day * 1440 - ahead
                    self.assert_nights(begins, begins + 3 * 1440, ahead, [day, day + 1, day + 2])
                    self.assert_nights(begins, begins + 3 * 1440 - 1, ahead, [day, day + 1])
                    self.assert_nights(begins - 1, begins, ahead, [day - 1])

    def test_the_told_list_is_a_new_one(self):
        told = nights(0, 3 * 1440, 0)
        told.append(99)
        told[0] = 77
        self.assertEqual(nights(0, 3 * 1440, 0), [0, 1, 2])
        none = nights(0, 0, 0)
        none.append(99)
        self.assertEqual(nights(0, 0, 0), [])

    def test_arguments_by_name(self):
        self.assertEqual(nights(coming=1370, leaving=1390, ahead=60), [0])


if __name__ == "__main__":
    unittest.main()
