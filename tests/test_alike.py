"""5.1 and 5.2, with 0.2 (a) and (c)."""

import unittest

from staybounds.alike import are_alike, idle_limits, is_stricter, parting_calendar
from staybounds.errors import InvalidBook, OtherZones
from staybounds.judging import is_allowed
from tests.listing import first_parting
from tests.samples import ANYTHING, SHORT, TWO, calendars_up_to, limits_of, mixed_books

FREE = ("a", ())
FUNCTIONS = [parting_calendar, are_alike, is_stricter]


def of_a(*limits):
    return ("a", limits)


def of_ab(*limits):
    return ("ab", limits)


class PartingTest(unittest.TestCase):
    def test_example(self):
        self.assertEqual(parting_calendar(SHORT, FREE), "aaa")

    def test_books_written_out(self):
        for one, other, calendar in [
            (SHORT, SHORT, None), (FREE, FREE, None), (of_ab(), of_ab(), None),
            (of_a(("row", "a", 0)), of_a(("most", "a", 0, 6)), None),
            (of_a(("row", "a", 0)), of_a(("starts", "a", 0, 3)), None),
            (of_a(("row", "a", 0)), FREE, "a"),
            (of_a(("row", "a", 2)), of_a(("most", "a", 2, 3)), None),
            (of_a(("gap", "a", 2)), of_a(("starts", "a", 1, 3)), "aa.a"),
            (of_a(("row", "a", 1), ("gap", "a", 2)), of_a(("most", "a", 1, 3)), None),
            (of_a(("gap", "a", 1)), FREE, None), (of_a(("gap", "a", 2)), FREE, "a.a"),
            (of_a(("gap", "a", 5)), of_a(("gap", "a", 4)), "a....a"),
            (of_a(("most", "a", 5, 6)), of_a(("row", "a", 5)), None),
            (of_a(("most", "a", 5, 6)), of_a(("row", "a", 4)), "aaaaa"),
            (of_a(("most", "a", 4, 6)), of_a(("row", "a", 4)), "a.aaaa"),
            (of_ab(("row", "a", 1)), of_ab(("row", "b", 1)), "aa"),
            (of_ab(("row", "a", 1), ("row", "b", 2)), of_ab(("row", "a", 1), ("row", "b", 3)), "bbb"),
            (of_ab(("row", "ab", 2)), of_ab(("row", "a", 2), ("row", "b", 2)), "aab"),
            (of_ab(("most", "a", 0, 1)), of_ab(("most", "ab", 0, 1)), "b"),
            (of_ab(("gap", "ab", 1)), of_ab(("gap", "a", 1)), None),
            (of_ab(("gap", "ab", 2)), of_ab(("gap", "a", 2)), "a.b"),
        ]:
            for books in [(one, other), (other, one)]:
                self.assertEqual(parting_calendar(*books), calendar, books)
                self.assertIs(are_alike(*books), calendar is None, books)

    def test_books_that_part_only_after_many_days(self):
        for one, other, calendar in [
            (of_a(("most", "a", 5, 6)), of_a(("most", "a", 6, 6)), "aaaaaa"),
            (of_a(("row", "a", 5)), FREE, "aaaaaa"),
            (of_ab(("row", "ab", 5), ("row", "a", 2)), of_ab(("row", "a", 2)), "aabaab"),
            (of_a(("gap", "a", 5), ("starts", "a", 1, 5)), of_a(("starts", "a", 1, 5)), "a....a"),
            (of_a(("gap", "a", 3), ("most", "a", 2, 6)), of_a(("gap", "a", 3), ("row", "a", 2)), "a...aa"),
            (of_a(("starts", "a", 1, 5), ("gap", "a", 2)), of_a(("starts", "a", 1, 5), ("gap", "a", 1)), "aaaa.a"),
            (of_ab(("most", "ab", 5, 6), ("most", "a", 1, 6)), of_ab(("row", "ab", 5), ("most", "a", 1, 6)), None),
        ]:
            self.assertEqual(parting_calendar(one, other), calendar)
            self.assertEqual(parting_calendar(other, one), calendar)
            self.assertEqual(first_parting(one, other, 7), calendar)

    def compare(self, one, other, days):
        wanted = first_parting(one, other, days)
        self.assertEqual(parting_calendar(one, other), wanted, (one, other))
        self.assertIs(are_alike(one, other), wanted is None, (one, other))

    def test_pairs_of_limits_against_listing(self):
        limits = limits_of("a")
        for at, limit in enumerate(limits):
            for step in (1, 7, 20):
                self.compare(of_a(limit), of_a(limits[(at + step) % len(limits)]), 8)

    def test_mixed_books_against_listing(self):
        books = mixed_books("a", 80, 51)
        for one, other in zip(books, books[1:]):
            self.compare(one, other, 8)
            self.compare(one, ("a", one[1][1:]), 8)
        books = mixed_books("ab", 15, 52) + [TWO]
        for one, other in zip(books, books[1:]):
            self.compare(one, other, 6)
            self.compare(one, ("ab", one[1][:-1]), 7)


class StricterTest(unittest.TestCase):
    def test_both_directions(self):
        for strict, mild in [(SHORT, FREE), (of_a(("row", "a", 1)), of_a(("row", "a", 2))),
                             (of_a(("gap", "a", 3)), of_a(("gap", "a", 2))), (TWO, of_ab(("gap", "a", 2))),
                             (of_a(("most", "a", 5, 6)), FREE), (of_a(("starts", "a", 0, 1)), SHORT)]:
            self.assertIs(is_stricter(strict, mild), True)
            self.assertIs(is_stricter(mild, strict), False)

    def test_neither(self):
        for one, other in [(of_ab(("row", "a", 1)), of_ab(("row", "b", 1))), (of_a(("gap", "a", 2)), SHORT),
                           (of_a(("gap", "a", 2)), of_a(("row", "a", 2)))]:
            self.assertIs(is_stricter(one, other), False)
            self.assertIs(is_stricter(other, one), False)

    def test_alike_books(self):
        for one, other in [(SHORT, SHORT), (FREE, of_a(("gap", "a", 1))), (of_ab(), of_ab()),
                           (of_a(("row", "a", 0)), of_a(("most", "a", 0, 6)))]:
            self.assertIs(are_alike(one, other), True)
            self.assertIs(is_stricter(one, other), False)
            self.assertIs(is_stricter(other, one), False)

    def compare(self, one, other, calendars):
        allowed = [(is_allowed(one, calendar), is_allowed(other, calendar)) for calendar in calendars]
        self.assertIs(is_stricter(one, other), (False, True) in allowed and (True, False) not in allowed, (one, other))

    def test_against_listing(self):
        calendars = list(calendars_up_to("a", 7))
        books = [of_a(limit) for limit in limits_of("a")[::3]] + mixed_books("a", 15, 53)
        for at, one in enumerate(books):
            for step in (1, 5):
                self.compare(one, books[(at + step) % len(books)], calendars)
                self.compare(books[(at + step) % len(books)], one, calendars)

    def test_fewer_limits_are_never_stricter(self):
        for book in mixed_books("ab", 40, 54):
            fewer = ("ab", book[1][1:])
            self.assertIs(is_stricter(fewer, book), False)
            self.assertIs(is_stricter(book, fewer), not are_alike(book, fewer))


class IdleTest(unittest.TestCase):
    def test_examples(self):
        self.assertEqual(idle_limits(SHORT), [])
        self.assertEqual(idle_limits(TWO), [])

    def test_books_written_out(self):
        for book, idle in [
            (FREE, []), (of_ab(), []), (of_a(("gap", "a", 1)), [0]), (of_a(("most", "a", 6, 6)), [0]),
            (of_a(("row", "a", 2), ("row", "a", 2)), [0, 1]),
            (of_a(("row", "a", 2), ("row", "a", 2), ("row", "a", 3)), [0, 1, 2]),
            (of_a(("row", "a", 2), ("row", "a", 3)), [1]), (of_a(("row", "a", 3), ("row", "a", 2)), [0]),
            (of_a(("row", "a", 2), ("most", "a", 2, 3)), [0, 1]),
            (of_a(("row", "a", 2), ("most", "a", 2, 3), ("gap", "a", 2)), [0, 1]),
            (of_ab(("row", "a", 2), ("row", "b", 2), ("row", "ab", 2)), [0, 1]),
            (of_ab(("row", "ab", 2), ("most", "b", 2, 2), ("gap", "a", 1), ("row", "b", 3)), [1, 2, 3]),
            (of_a(("row", "a", 0), ("gap", "a", 5), ("starts", "a", 0, 2)), [0, 1, 2]),
        ]:
            self.assertEqual(idle_limits(book), idle, book)

    def test_against_the_book_without_the_limit(self):
        for zones, many, days, seed in [("a", 40, 7, 55), ("ab", 12, 6, 56)]:
            for book in mixed_books(zones, many, seed):
                without = [(zones, book[1][:at] + book[1][at + 1:]) for at in range(len(book[1]))]
                wanted = [at for at, other in enumerate(without) if are_alike(book, other)]
                self.assertEqual(idle_limits(book), wanted, book)
                listed = [at for at, other in enumerate(without) if first_parting(book, other, days) is None]
                self.assertEqual(wanted, listed, book)


class WrongArgumentsTest(unittest.TestCase):
    def test_order_of_errors(self):
        for function in FUNCTIONS:
            for one, other, error in [(None, None, InvalidBook), (SHORT, None, InvalidBook), (None, SHORT, InvalidBook),
                                      (("b", ()), TWO, InvalidBook), (SHORT, TWO, OtherZones),
                                      (TWO, FREE, OtherZones), (TWO, ("a", []), InvalidBook),
                                      (("ab", None), SHORT, InvalidBook)]:
                with self.assertRaises(error):
                    function(one, other)

    def test_any_kinds(self):
        for function in FUNCTIONS:
            for value in ANYTHING:
                if value != ("a", ()):
                    for books in [(value, SHORT), (SHORT, value), (value, value)]:
                        with self.assertRaises((InvalidBook, OtherZones)):
                            function(*books)

    def test_idle_limits_of_no_book(self):
        for wrong in [None, ["a", ()], ("a", ["row"]), ("a", (("row", "b", 1),)), True]:
            with self.assertRaises(InvalidBook):
                idle_limits(wrong)


if __name__ == "__main__":
    unittest.main()
