"""13.1 and 13.2."""

import random
import unittest

from staybounds.errors import Broken, InvalidBook, InvalidCalendar, InvalidNumber
from staybounds.judging import is_allowed
from staybounds.numbering import calendar_at, count_allowed, count_with, number_of
from tests.listing import walked_counts
from tests.samples import ANYTHING, SHORT, TWO, calendars_up_to, limits_of, long_calendars, mixed_books
from tests.test_sightings import fibonacci

FREE = ("ab", ())
NONE_IN = ("ab", (("row", "ab", 0),))
ALTERNATE = ("a", (("row", "a", 1),))
WRONG_DAYS = [True, False, -1, 61, 10 ** 30, -10 ** 30, "1", "", None, (1,), [1]]


def listed(book, days):
    """All allowed calendars with so many days, in ascending order."""
    return [calendar for calendar in calendars_up_to(book[0], days) if len(calendar) == days and is_allowed(book, calendar)]


def many_books():
    books = [SHORT, ALTERNATE, ("a", ())] + [("a", (limit,)) for limit in limits_of("a")[::3]] + mixed_books("a", 25, 151)
    for book in books:
        yield book, range(7)
    for book in [TWO, FREE, NONE_IN] + [("ab", (limit,)) for limit in limits_of("ab")[::40]] + mixed_books("ab", 10, 152):
        yield book, range(5)
    for book in mixed_books("ab", 2, 153):
        yield book, [5, 6]


def long_books():
    return [SHORT, TWO, ALTERNATE, FREE, NONE_IN] + mixed_books("a", 4, 154) + mixed_books("ab", 4, 155)


class CountTest(unittest.TestCase):
    def test_example(self):
        self.assertEqual(count_allowed(SHORT, 4), 11)

    def test_against_listing(self):
        for book, all_days in many_books():
            for days in all_days:
                calendars = listed(book, days)
                self.assertEqual(count_allowed(book, days), len(calendars), (book, days))
                for many in list(range(days + 3)) + [60]:
                    wanted = len([calendar for calendar in calendars if days - calendar.count(".") == many])
                    self.assertEqual(count_with(book, days, many), wanted, (book, days, many))

    def test_60_days_exactly(self):
        self.assertEqual(count_allowed(FREE, 60), 3 ** 60)
        self.assertEqual(count_allowed(("a", ()), 60), 2 ** 60)
        self.assertEqual(count_allowed(NONE_IN, 60), 1)
        self.assertEqual(count_allowed(ALTERNATE, 60), fibonacci(60))
        self.assertEqual(count_with(FREE, 60, 0), 1)
        self.assertEqual(count_with(FREE, 60, 60), 2 ** 60)
        self.assertEqual(count_with(("a", ()), 60, 30), 118264581564861424)
        self.assertEqual(count_with(FREE, 60, 30), 118264581564861424 * 2 ** 30)
        self.assertEqual(count_with(FREE, 60, 59), 60 * 2 ** 59)
        self.assertEqual(count_with(SHORT, 60, 1), 60)
        self.assertEqual(count_with(ALTERNATE, 60, 30), 31)
        self.assertEqual(count_with(ALTERNATE, 60, 2), 59 * 58 // 2)

    def test_60_days_against_walking(self):
        for book in long_books():
            wanted = walked_counts(book, 60)
            for many in range(0, 61, 3):
                self.assertEqual(count_with(book, 60, many), wanted.get(many, 0), (book, many))
            self.assertEqual(count_allowed(book, 60), sum(wanted.values()), book)

    def test_the_sum_over_all_many(self):
        for at, book in enumerate(long_books()):
            for days in ((60,), (17, 41))[at % 2]:
                counts = [count_with(book, days, many) for many in range(61)]
                self.assertEqual(sum(counts), count_allowed(book, days), (book, days))
                self.assertTrue(all(count >= 0 for count in counts))

    def test_many_of_which_no_calendar_has_so_many(self):
        for book, days, many in [(SHORT, 4, 3), (SHORT, 60, 31), (NONE_IN, 60, 1), (NONE_IN, 60, 60), (FREE, 0, 1),
                                 (FREE, 5, 6), (FREE, 5, 60), (FREE, 59, 60), (ALTERNATE, 60, 31), (("a", ()), 0, 60)]:
            self.assertEqual(count_with(book, days, many), 0, (book, days, many))

    def test_no_days(self):
        for book in (SHORT, TWO, FREE, NONE_IN):
            self.assertEqual(count_allowed(book, 0), 1)
            self.assertEqual(count_with(book, 0, 0), 1)


class NumberTest(unittest.TestCase):
    def test_example(self):
        self.assertEqual(calendar_at(SHORT, 4, 3), "..aa")
        self.assertEqual(number_of(SHORT, "..aa"), 3)

    def test_written_out(self):
        wanted = ["...", "..a", ".a.", ".aa", "a..", "a.a", "aa."]
        self.assertEqual([calendar_at(SHORT, 3, number) for number in range(7)], wanted)
        self.assertEqual([number_of(SHORT, calendar) for calendar in wanted], list(range(7)))
        self.assertEqual(calendar_at(FREE, 0, 0), "")
        self.assertEqual(number_of(FREE, ""), 0)
        self.assertEqual(calendar_at(FREE, 60, 3 ** 60 - 1), "b" * 60)
        self.assertEqual(number_of(FREE, "b" * 60), 3 ** 60 - 1)
        self.assertEqual(number_of(FREE, "." * 59 + "b"), 2)
        self.assertEqual(number_of(("a", ()), "a" + "." * 59), 2 ** 59)
        self.assertEqual(calendar_at(NONE_IN, 60, 0), "." * 60)

    def test_against_listing(self):
        for book, all_days in many_books():
            for days in all_days:
                calendars = listed(book, days)
                for number, calendar in list(enumerate(calendars))[::1 + len(calendars) // 40]:
                    self.assertEqual(number_of(book, calendar), number, (book, calendar))
                    self.assertEqual(calendar_at(book, days, number), calendar, (book, days, number))
                self.assertEqual(calendar_at(book, days, len(calendars) - 1), calendars[-1])
                with self.assertRaises(InvalidNumber):
                    calendar_at(book, days, len(calendars))

    def test_60_days_undo_each_other(self):
        draw = random.Random(156)
        for book in long_books():
            for days in (60, 37):
                total = count_allowed(book, days)
                numbers = sorted([0, total - 1] + [draw.randrange(total) for _ in range(6)])
                calendars = [calendar_at(book, days, number) for number in numbers]
                self.assertEqual(calendars, sorted(calendars))
                for number, calendar in zip(numbers, calendars):
                    self.assertEqual(len(calendar), days)
                    self.assertTrue(is_allowed(book, calendar))
                    self.assertEqual(number_of(book, calendar), number)
        for calendar in long_calendars("ab", 40, 157):
            self.assertEqual(calendar_at(FREE, len(calendar), number_of(FREE, calendar)), calendar)


class WrongArgumentsTest(unittest.TestCase):
    def test_invalid_number_of_days(self):
        for wrong in WRONG_DAYS:
            for call in [lambda: count_allowed(SHORT, wrong), lambda: count_with(SHORT, wrong, 0),
                         lambda: count_with(SHORT, 4, wrong), lambda: count_with(SHORT, wrong, wrong),
                         lambda: calendar_at(SHORT, wrong, 0)]:
                with self.assertRaises(InvalidNumber, msg=wrong):
                    call()

    def test_no_calendar_has_the_number(self):
        for wrong in [True, False, -1, 11, 12, 10 ** 30, -10 ** 30, 10 ** 6000, "1", "", None, (1,), [1], ()]:
            with self.assertRaises(InvalidNumber, msg=wrong):
                calendar_at(SHORT, 4, wrong)
        for book in long_books():
            with self.assertRaises(InvalidNumber):
                calendar_at(book, 60, count_allowed(book, 60))
            with self.assertRaises(InvalidNumber):
                calendar_at(book, 60, -1)

    def test_broken_after_invalid_calendar(self):
        for calendar, error in [("aaa", Broken), ("aaa...", Broken), ("b", InvalidCalendar), ("aaab", InvalidCalendar),
                                ("aaa" + "." * 58, InvalidCalendar), (["aaa"], InvalidCalendar), (None, InvalidCalendar)]:
            with self.assertRaises(error, msg=calendar):
                number_of(SHORT, calendar)

    def test_invalid_book_comes_first(self):
        for wrong in [None, ["a", ()], ("b", ()), ("a", (("gap", "a", 0),))]:
            for call in [lambda: count_allowed(wrong, 61), lambda: count_with(wrong, 61, 61),
                         lambda: number_of(wrong, "b"), lambda: calendar_at(wrong, 61, -1)]:
                with self.assertRaises(InvalidBook):
                    call()

    def test_any_kind(self):
        for value in ANYTHING:
            if not (type(value) is int and 0 <= value <= 60):
                with self.assertRaises(InvalidNumber):
                    count_allowed(SHORT, value)
            if not (type(value) is int and 0 <= value < 11):
                with self.assertRaises(InvalidNumber):
                    calendar_at(SHORT, 4, value)


if __name__ == "__main__":
    unittest.main()
