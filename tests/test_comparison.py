"""first_broken and is_allowed against a plain reading of 0.5 and 0.6 (2.1)."""

import unittest

from staybounds.judging import first_broken, is_allowed
from tests.plainly import first_broken_by_beginnings, plain_first_broken
from tests.samples import SHORT, TWO, calendars_up_to, limits_of, long_calendars, mixed_books


class ComparisonTest(unittest.TestCase):
    def compare(self, book, calendars):
        for calendar in calendars:
            wanted = plain_first_broken(book, calendar)
            if first_broken(book, calendar) != wanted or is_allowed(book, calendar) != (wanted is None):
                self.fail("%r of %r: wanted %r" % (calendar, book, wanted))

    def test_each_limit_of_one_zone(self):
        calendars = list(calendars_up_to("a", 8))
        for limit in limits_of("a"):
            self.compare(("a", (limit,)), calendars)

    def test_each_limit_of_two_zones(self):
        calendars = list(calendars_up_to("ab", 4)) + long_calendars("ab", 40, 10)
        for limit in limits_of("ab"):
            self.compare(("ab", (limit,)), calendars)

    def test_several_limits_of_one_zone(self):
        for book in mixed_books("a", 100, 11):
            self.compare(book, list(calendars_up_to("a", 7)) + long_calendars("a", 20, 12))

    def test_several_limits_of_two_zones(self):
        for book in [TWO] + mixed_books("ab", 100, 13):
            self.compare(book, list(calendars_up_to("ab", 5)) + long_calendars("ab", 20, 14))

    def test_all_short_calendars(self):
        for book in [SHORT, TWO] + mixed_books("ab", 5, 15):
            self.compare(book, list(calendars_up_to(book[0], 7)))

    def test_the_two_plain_readings_agree(self):
        calendars = list(calendars_up_to("ab", 4)) + long_calendars("ab", 5, 16)
        for book in [("ab", (limit,)) for limit in limits_of("ab")[::3]] + mixed_books("ab", 30, 17):
            for calendar in calendars:
                self.assertEqual(plain_first_broken(book, calendar), first_broken_by_beginnings(book, calendar))
