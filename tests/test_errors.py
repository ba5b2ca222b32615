"""The interface of wayhold/errors.py."""

import unittest

from wayhold import errors

PLAIN = (
    "BadName", "BadClock", "BadTimes", "BadSeats", "BadNews", "Taken", "NoPlace", "NoRun", "NoJourney",
    "NoLeg", "NoBed", "NoShare", "NoWay", "Twice", "Astray", "Full", "NoDeed",
)
ALL = PLAIN + ("Broken", "BadText")


class ErrorTests(unittest.TestCase):
    def test_way_error_stands_straight_under_value_error(self):
        self.assertEqual(errors.WayError.__bases__, (ValueError,))

    def test_each_class_stands_straight_under_way_error(self):
        for name in ALL:
            with self.subTest(name):
                self.assertEqual(getattr(errors, name).__bases__, (errors.WayError,))
                self.assertEqual(getattr(errors, name).__name__, name)

    def test_they_are_classes_of_their_own(self):
        self.assertEqual(len({getattr(errors, name) for name in ALL}), 19)

    def test_there_are_no_others(self):
        classes = [name for name, thing in vars(errors).items() if isinstance(thing, type)]
        self.assertEqual(sorted(classes), sorted(ALL + ("WayError",)))

    def test_each_plain_one_can_be_raised_and_taken(self):
        for name in PLAIN:
            for words in ((), ("some words",)):
                with self.subTest(name), self.assertRaises(errors.WayError) as caught:
                    raise getattr(errors, name)(*words)
                self.assertIs(type(caught.exception), getattr(errors, name))

    def test_none_is_taken_as_another(self):
        for name in PLAIN:
            for other in ALL:
                if other != name:
                    self.assertNotIsInstance(getattr(errors, name)(), getattr(errors, other))

    def test_broken_has_at_and_word_when_it_is_made(self):
        for at, word in ((0, "gone"), (6, "missed"), (10 ** 59, "gone")):
            made = errors.Broken(at, word)
            self.assertEqual((made.at, made.word), (at, word))
            with self.assertRaises(ValueError) as caught:
                raise errors.Broken(at=at, word=word)
            self.assertEqual((caught.exception.at, caught.exception.word), (at, word))

    def test_bad_text_has_row_when_it_is_made(self):
        for row in (0, 1, 10 ** 59):
            self.assertEqual(errors.BadText(row).row, row)
            with self.assertRaises(ValueError) as caught:
                raise errors.BadText(row=row)
            self.assertEqual(caught.exception.row, row)

    def test_two_objects_share_nothing(self):
        first, second = errors.Broken(1, "gone"), errors.Broken(2, "missed")
        self.assertEqual((first.at, first.word, second.at, second.word), (1, "gone", 2, "missed"))


if __name__ == "__main__":
    unittest.main()
