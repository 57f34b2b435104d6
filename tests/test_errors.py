"""0.3 and both rows of errors.py in the interface."""

import unittest

from staybounds import errors

NAMES = """
    InvalidBook InvalidCalendar InvalidZones Broken InvalidPast InvalidWeights InvalidLoop InvalidFraction
    OtherZones InvalidNumber InvalidDays InvalidWishes InvalidSighting NoneAllowed OtherLength TooMany
    InvalidGroup TooLarge ParseError InvalidName Exists Full NoTraveller InvalidEntries TooLong InvalidLimits
    Taken NoEdition NothingToUndo
""".split()


class ErrorsTest(unittest.TestCase):
    def test_base_is_a_value_error(self):
        self.assertEqual(errors.StayError.__bases__, (ValueError,))

    def test_each_class_is_a_direct_subclass(self):
        self.assertEqual(len(NAMES), 29)
        for name in NAMES:
            with self.subTest(name):
                found = getattr(errors, name)
                self.assertEqual(found.__bases__, (errors.StayError,))
                self.assertEqual(found.__name__, name)
                self.assertEqual(found.__module__, "staybounds.errors")

    def test_no_class_is_another_one(self):
        self.assertEqual(len({id(getattr(errors, name)) for name in NAMES}), len(NAMES))

    def test_nothing_else_is_an_error(self):
        listed = [name for name in vars(errors) if not name.startswith("_")]
        self.assertEqual(sorted(listed), sorted(NAMES + ["StayError"]))

    def test_each_can_be_raised_and_caught(self):
        for name in NAMES:
            with self.subTest(name):
                with self.assertRaises(errors.StayError):
                    raise getattr(errors, name)("why")
