"""15.1 and 15.2."""

import unittest

from staybounds.alike import parting_calendar
from staybounds.errors import InvalidBook, InvalidCalendar, InvalidNumber, OtherZones
from staybounds.judging import is_allowed
from staybounds.naive import all_calendars, naive_allowed, naive_count, naive_parting
from staybounds.numbering import count_allowed
from tests.plainly import plain_first_broken
from tests.samples import SHORT, TWO, calendars_up_to, limits_of, long_calendars, mixed_books

FREE = ("ab", ())
WRONG_DAYS = [True, False, -1, 7, 60, 10 ** 30, "1", "", None, (1,), [1]]


class AllCalendarsTest(unittest.TestCase):
    def test_example(self):
        self.assertEqual(len(all_calendars(TWO, 2)), 9)

    def test_written_out(self):
        self.assertEqual(all_calendars(TWO, 0), [""])
        self.assertEqual(all_calendars(TWO, 1), [".", "a", "b"])
        self.assertEqual(all_calendars(SHORT, 2), ["..", ".a", "a.", "aa"])
        self.assertEqual(all_calendars(FREE, 2), ["..", ".a", ".b", "a.", "aa", "ab", "b.", "ba", "bb"])

    def test_all_in_ascending_order(self):
        for book in (SHORT, TWO, FREE, ("a", (("row", "a", 0),))):
            for days in range(7):
                found = all_calendars(book, days)
                self.assertIs(type(found), list)
                self.assertEqual(len(found), (1 + len(book[0])) ** days)
                self.assertEqual(found, sorted(set(found)))
                self.assertEqual(found, [other for other in calendars_up_to(book[0], days) if len(other) == days])


class NaiveAllowedTest(unittest.TestCase):
    def compare(self, book, calendars):
        for calendar in calendars:
            wanted = plain_first_broken(book, calendar) is None
            self.assertIs(naive_allowed(book, calendar), wanted, (book, calendar))
            self.assertIs(is_allowed(book, calendar), wanted, (book, calendar))

    def test_written_out(self):
        for book, calendar, wanted in [(SHORT, "", True), (SHORT, "aa..aa", True), (SHORT, "aa.a", False), (TWO, "aba", False),
                                       (TWO, "a.a", False), (TWO, "ab.b", True), (TWO, "aaa", False), (FREE, "ab" * 30, True)]:
            self.assertIs(naive_allowed(book, calendar), wanted, (book, calendar))

    def test_each_limit(self):
        calendars = list(calendars_up_to("a", 7)) + long_calendars("a", 10, 171)
        for limit in limits_of("a"):
            self.compare(("a", (limit,)), calendars)
        calendars = list(calendars_up_to("ab", 3)) + long_calendars("ab", 20, 172)
        for limit in limits_of("ab"):
            self.compare(("ab", (limit,)), calendars)

    def test_several_limits(self):
        for zones, seed in [("a", 173), ("ab", 174)]:
            for book in mixed_books(zones, 30, seed):
                self.compare(book, list(calendars_up_to(zones, 4)) + long_calendars(zones, 15, seed + 2))

    def test_calendars_of_60_days(self):
        for limit, calendar, wanted in [(("most", "a", 2, 4), "aa.." * 15, True), (("most", "a", 2, 4), "." * 57 + "aaa", False),
                                        (("row", "a", 5), "." * 54 + "a" * 6, False), (("row", "a", 5), "." * 55 + "a" * 5, True),
                                        (("gap", "a", 5), "a....a" * 10, False), (("gap", "a", 5), "a....." * 10, True),
                                        (("starts", "a", 1, 5), "." * 57 + "a.a", False)]:
            self.assertIs(naive_allowed(("a", (limit,)), calendar), wanted, (limit, calendar))


class NaiveCountTest(unittest.TestCase):
    def test_against_count_allowed(self):
        for book in [SHORT, ("a", ())] + [("a", (limit,)) for limit in limits_of("a")[::5]] + mixed_books("a", 20, 175):
            for days in range(7):
                self.assertEqual(naive_count(book, days), count_allowed(book, days), (book, days))
        for book in [TWO, FREE] + mixed_books("ab", 15, 176):
            for days in range(5):
                self.assertEqual(naive_count(book, days), count_allowed(book, days), (book, days))
        self.assertEqual(naive_count(TWO, 6), count_allowed(TWO, 6))
        self.assertEqual(naive_count(FREE, 6), 729)
        self.assertEqual(naive_count(SHORT, 4), 11)


class NaivePartingTest(unittest.TestCase):
    def test_example(self):
        self.assertIsNone(naive_parting(SHORT, ("a", ()), 2))
        self.assertEqual(naive_parting(SHORT, ("a", ()), 3), "aaa")
        self.assertEqual(naive_parting(("a", ()), SHORT, 6), "aaa")

    def test_no_days(self):
        self.assertIsNone(naive_parting(("a", (("row", "a", 0),)), ("a", ()), 0))
        self.assertEqual(naive_parting(("a", (("row", "a", 0),)), ("a", ()), 1), "a")

    def compare(self, one, other, most):
        wanted = parting_calendar(one, other)
        for days in range(most + 1):
            short = wanted if wanted is not None and len(wanted) <= days else None
            self.assertEqual(naive_parting(one, other, days), short, (one, other, days))

    def test_against_parting_calendar(self):
        books = [SHORT] + mixed_books("a", 25, 177)
        for one, other in zip(books, books[1:]):
            self.compare(one, other, 6)
            self.compare(one, ("a", one[1][1:]), 6)
        books = [TWO, FREE] + mixed_books("ab", 10, 178)
        for one, other in zip(books, books[1:]):
            self.compare(one, other, 4)
            self.compare(("ab", one[1][:-1]), one, 5)

    def test_books_that_part_after_more_days(self):
        for one, other, calendar in [(("row", "a", 5), ("gap", "a", 1), "aaaaaa"), (("gap", "a", 4), ("gap", "a", 5), "a....a"),
                                     (("most", "a", 4, 6), ("row", "a", 4), "a.aaaa")]:
            books = (("a", (one,)), ("a", (other,)))
            self.assertIsNone(naive_parting(*books, 5))
            self.assertEqual(naive_parting(*books, 6), calendar)


class WrongArgumentsTest(unittest.TestCase):
    def test_invalid_number(self):
        for wrong in WRONG_DAYS:
            for call in [lambda: all_calendars(SHORT, wrong), lambda: naive_count(SHORT, wrong),
                         lambda: naive_parting(SHORT, SHORT, wrong)]:
                with self.assertRaises(InvalidNumber, msg=wrong):
                    call()

    def test_order_of_errors(self):
        for one, other, days, error in [
            (None, None, 7, InvalidBook), (SHORT, None, 7, InvalidBook), (None, SHORT, 3, InvalidBook),
            (TWO, ("a", []), 7, InvalidBook), (SHORT, TWO, 7, OtherZones), (TWO, SHORT, True, OtherZones),
            (TWO, SHORT, 3, OtherZones), (SHORT, SHORT, 7, InvalidNumber), (FREE, TWO, None, InvalidNumber),
        ]:
            with self.assertRaises(error, msg=(one, other, days)):
                naive_parting(one, other, days)
        for function in (all_calendars, naive_count):
            with self.assertRaises(InvalidBook):
                function(["a", ()], 7)
        for book, calendar, error in [(None, None, InvalidBook), (SHORT, "b", InvalidCalendar), (SHORT, ["a"], InvalidCalendar),
                                      (SHORT, "." * 61, InvalidCalendar)]:
            with self.assertRaises(error):
                naive_allowed(book, calendar)


if __name__ == "__main__":
    unittest.main()
