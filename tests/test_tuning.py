"""6.1 and 6.2, with 0.4 to 0.7."""

import unittest

from staybounds.alike import are_alike
from staybounds.errors import InvalidBook, InvalidNumber, InvalidZones
from staybounds.tuning import equal_counts, least_most, longest_stay, nearest_counts
from tests.listing import allowed_up_to, first_parting, walked_pasts
from tests.samples import ANYTHING, FORMS, SHORT, TWO, limits_of, mixed_books, zones_of

FREE = ("a", ())
COUNTS = {kind: range(least, greatest + 1) for kind, least, greatest, _, _ in FORMS}


def of_a(*limits):
    return ("a", limits)


def with_count(book, number, count):
    """The book with the count of one limit replaced."""
    limits = [list(limit) for limit in book[1]]
    limits[number][2] = count
    return (book[0], tuple(tuple(limit) for limit in limits))


class CountsTest(unittest.TestCase):
    def test_example(self):
        self.assertEqual(equal_counts(SHORT, 0), [2])
        self.assertEqual(nearest_counts(SHORT, 0), (1, 3))

    def test_each_form_written_out(self):
        for book, number, equal, nearest in [
            (of_a(("most", "a", 6, 6)), 0, [6], (5, None)), (of_a(("most", "a", 0, 6)), 0, [0], (None, 1)),
            (of_a(("most", "a", 3, 3)), 0, [3, 4, 5, 6], (2, None)),
            (of_a(("most", "a", 6, 1)), 0, [1, 2, 3, 4, 5, 6], (0, None)),
            (of_a(("most", "a", 0, 1)), 0, [0], (None, 1)),
            (of_a(("row", "a", 0)), 0, [0], (None, 1)), (of_a(("row", "a", 5)), 0, [5], (4, None)),
            (of_a(("row", "a", 5), ("row", "a", 2)), 0, [2, 3, 4, 5], (1, None)),
            (of_a(("gap", "a", 1)), 0, [1], (None, 2)), (of_a(("gap", "a", 5)), 0, [5], (4, None)),
            (of_a(("gap", "a", 2), ("gap", "a", 4)), 0, [1, 2, 3, 4], (None, 5)),
            (of_a(("gap", "a", 5), ("row", "a", 0)), 0, [1, 2, 3, 4, 5], (None, None)),
            (of_a(("starts", "a", 0, 5)), 0, [0], (None, 1)), (of_a(("starts", "a", 1, 1)), 0, [1, 2, 3, 4, 5], (0, None)),
            (of_a(("starts", "a", 3, 5)), 0, [3, 4, 5], (2, None)), (of_a(("starts", "a", 2, 4)), 0, [2, 3, 4, 5], (1, None)),
            (of_a(("starts", "a", 1, 4)), 0, [1], (0, 2)),
            (of_a(("row", "a", 3), ("most", "a", 4, 6)), 1, [4], (3, 5)),
            (TWO, 0, [2], (1, 3)), (TWO, 1, [2], (1, 3)),
            (("ab", (("row", "b", 3), ("most", "b", 5, 6), ("most", "b", 2, 3))), 1, [4, 5, 6], (3, None)),
        ]:
            self.assertEqual(equal_counts(book, number), equal, (book, number))
            self.assertEqual(nearest_counts(book, number), nearest, (book, number))

    def compare(self, book, number, alike):
        equal = [count for count in COUNTS[book[1][number][0]] if alike(book, with_count(book, number, count))]
        others = [count for count in COUNTS[book[1][number][0]] if count not in equal]
        own = book[1][number][2]
        less = [count for count in others if count < own]
        more = [count for count in others if count > own]
        self.assertIn(own, equal)
        self.assertEqual(equal_counts(book, number), equal, (book, number))
        nearest = (less[-1] if less else None, more[0] if more else None)
        self.assertEqual(nearest_counts(book, number), nearest, (book, number))

    def test_each_limit_against_replacing_its_count(self):
        for limit in limits_of("a"):
            self.compare(of_a(limit), 0, are_alike)
        for limit in limits_of("ab")[::10]:
            self.compare(("ab", (limit, ("most", "ab", 3, 5))), 0, are_alike)

    def test_each_limit_of_mixed_books(self):
        for book in mixed_books("a", 30, 61) + mixed_books("ab", 8, 62):
            for number in range(len(book[1])):
                self.compare(book, number, are_alike)

    def test_against_listing(self):
        for book in mixed_books("a", 15, 63) + [of_a(limit) for limit in limits_of("a")[::6]]:
            self.compare(book, 0, lambda one, other: first_parting(one, other, 7) is None)


class LeastMostTest(unittest.TestCase):
    def test_example(self):
        self.assertEqual(least_most(SHORT, "a", 6), 4)

    def test_books_written_out(self):
        for book, zones, counts in [
            (SHORT, "a", [1, 2, 2, 2, 3, 4]), (FREE, "a", [1, 2, 3, 4, 5, 6]),
            (of_a(("row", "a", 0)), "a", [0, 0, 0, 0, 0, 0]), (of_a(("row", "a", 2)), "a", [1, 2, 2, 3, 4, 4]),
            (of_a(("row", "a", 1), ("gap", "a", 5)), "a", [1, 1, 1, 1, 1, 1]),
            (of_a(("most", "a", 1, 5)), "a", [1, 1, 1, 1, 1, 2]),
            (TWO, "ab", [1, 2, 2, 3, 4, 4]), (TWO, "a", [1, 2, 2, 2, 3, 4]), (TWO, "b", [1, 2, 2, 3, 4, 4]),
            (("ab", (("row", "a", 0),)), "a", [0] * 6), (("ab", (("row", "a", 0),)), "b", [1, 2, 3, 4, 5, 6]),
            (("ab", (("row", "a", 1), ("row", "b", 1))), "ab", [1, 2, 3, 4, 5, 6]),
            (("ab", (("row", "a", 1), ("row", "b", 1))), "a", [1, 1, 2, 2, 3, 3]),
        ]:
            self.assertEqual([least_most(book, zones, span) for span in range(1, 7)], counts, (book, zones))

    def compare(self, book, days):
        calendars = allowed_up_to(book, days)
        for zones in zones_of(book[0]):
            marks = ["".join("x" if day in zones else "." for day in calendar) for calendar in calendars]
            for span in range(1, 7):
                wanted = max(
                    mark[max(0, end - span):end].count("x") for mark in marks for end in range(len(mark) + 1)
                )
                self.assertEqual(least_most(book, zones, span), wanted, (book, zones, span))

    def test_against_all_days_of_allowed_calendars(self):
        for limit in limits_of("a")[::2]:
            self.compare(of_a(limit), 8)
        for book in mixed_books("a", 30, 64):
            self.compare(book, 8)
        for book in [TWO] + mixed_books("ab", 8, 65):
            self.compare(book, 7)

    def test_the_book_is_alike_with_it_and_not_with_less(self):
        for book in [SHORT] + mixed_books("a", 15, 66):
            if len(book[1]) < 4:
                for span in range(1, 7):
                    count = least_most(book, "a", span)
                    self.assertTrue(are_alike(book, ("a", book[1] + (("most", "a", count, span),))))
                    if count > 0:
                        self.assertFalse(are_alike(book, ("a", book[1] + (("most", "a", count - 1, span),))))


def longest_walk(book, zones):
    """The number of the days in zones that can follow each other, or None if there are more than can differ."""
    steps = walked_pasts(book)
    level = set(steps)
    for many in range(len(steps) + 2):
        longer = {after for past in level for day, after in steps[past] if day in zones}
        if not longer:
            return many
        level = longer
    return None


class LongestStayTest(unittest.TestCase):
    def test_books_written_out(self):
        for book, zones, days in [
            (SHORT, "a", 2), (FREE, "a", None), (of_a(("row", "a", 0)), "a", 0), (of_a(("starts", "a", 0, 1)), "a", 0),
            (of_a(("most", "a", 0, 4)), "a", 0), (of_a(("most", "a", 6, 6)), "a", None),
            (of_a(("most", "a", 5, 6)), "a", 5), (of_a(("row", "a", 5)), "a", 5), (of_a(("gap", "a", 5)), "a", None),
            (of_a(("starts", "a", 1, 5)), "a", None), (of_a(("most", "a", 3, 6), ("row", "a", 5)), "a", 3),
            (TWO, "ab", 2), (TWO, "a", 2), (TWO, "b", 2), (("ab", ()), "ab", None), (("ab", ()), "b", None),
            (("ab", (("row", "a", 0),)), "a", 0), (("ab", (("row", "a", 0),)), "ab", None),
            (("ab", (("row", "a", 2), ("row", "b", 2))), "ab", None),
            (("ab", (("row", "a", 5), ("row", "b", 5), ("gap", "a", 5))), "ab", None),
            (("ab", (("row", "a", 5), ("row", "b", 4), ("gap", "a", 5))), "ab", 13),
            (("ab", (("row", "a", 5), ("row", "b", 4), ("gap", "a", 5), ("gap", "b", 5))), "ab", 13),
            (("ab", (("row", "a", 5), ("row", "b", 3), ("gap", "b", 4), ("gap", "a", 4))), "ab", 11),
            (("ab", (("most", "ab", 1, 6),)), "b", 1),
        ]:
            self.assertEqual(longest_stay(book, zones), days, (book, zones))

    def test_against_walking(self):
        books = [of_a(limit) for limit in limits_of("a")] + mixed_books("a", 40, 67)
        books += [("ab", (limit,)) for limit in limits_of("ab")[::9]] + mixed_books("ab", 40, 68)
        for book in books:
            for zones in zones_of(book[0]):
                self.assertEqual(longest_stay(book, zones), longest_walk(book, zones), (book, zones))


class WrongArgumentsTest(unittest.TestCase):
    def test_invalid_number(self):
        for function in (equal_counts, nearest_counts):
            for book, wrong in [(SHORT, 1), (SHORT, -1), (SHORT, True), (SHORT, False), (SHORT, "0"), (SHORT, None),
                                (SHORT, [0]), (SHORT, (0,)), (SHORT, 10 ** 30), (TWO, 2), (TWO, -2), (TWO, True),
                                (FREE, 0), (FREE, -1), (FREE, False), (SHORT, ("most", "a", 2, 4))]:
                with self.assertRaises(InvalidNumber, msg=(book, wrong)):
                    function(book, wrong)
            for wrong in [None, ["a", ()], ("b", ())]:
                with self.assertRaises(InvalidBook):
                    function(wrong, True)

    def test_invalid_zones(self):
        for wrong in ["b", "ab", "ba", "", ".", "aa", ("a",), ["a"], None, True, 0]:
            with self.assertRaises(InvalidZones):
                longest_stay(SHORT, wrong)
            for span in (6, 7, True):
                with self.assertRaises(InvalidZones):
                    least_most(SHORT, wrong, span)
        for wrong in ["ba", "", "c", "abc", ("a", "b")]:
            with self.assertRaises(InvalidZones):
                longest_stay(TWO, wrong)
            with self.assertRaises(InvalidZones):
                least_most(TWO, wrong, 2)

    def test_invalid_span(self):
        for wrong in [0, 7, -1, True, False, "6", None, [6], (6,), 10 ** 30]:
            with self.assertRaises(InvalidNumber):
                least_most(SHORT, "a", wrong)

    def test_invalid_book_comes_first(self):
        for wrong in [None, ["a", ()], ("b", ()), ("a", (("gap", "a", 0),))]:
            with self.assertRaises(InvalidBook):
                least_most(wrong, "c", 0)
            with self.assertRaises(InvalidBook):
                longest_stay(wrong, "c")

    def test_any_kinds(self):
        for value in ANYTHING:
            if value != "a":
                with self.assertRaises(InvalidZones):
                    longest_stay(SHORT, value)


if __name__ == "__main__":
    unittest.main()
