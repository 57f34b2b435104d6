"""1.1 and 1.2, with 0.3, 0.4 and 0.5."""

import unittest

from staybounds.books import days_in, is_book, is_calendar, is_limit, stays
from staybounds.errors import InvalidBook, InvalidCalendar, InvalidZones
from tests.plainly import plain_is_book, plain_is_calendar, plain_is_limit, plain_stays
from tests.samples import ANYTHING, FORMS, SHORT, TWO, calendars_up_to, limits_of, long_calendars

BOTH_ZONES = [("a", ()), ("ab", ())]


def limit_of(kind, zones, count, span):
    return (kind, zones, count) if span is None else (kind, zones, count, span)


def spoiled(limit):
    """What becomes of a limit by a wrong value or a wrong number of parts."""
    yield list(limit)
    yield limit[:-1]
    yield limit[1:]
    yield limit[::-1]
    yield (limit,)
    for wrong in ANYTHING:
        yield limit + (wrong,)
        for at in range(len(limit)):
            yield limit[:at] + (wrong,) + limit[at + 1:]


class LimitTest(unittest.TestCase):
    def test_example(self):
        self.assertIs(is_limit(("row", "ba", 2)), False)

    def test_every_limit_is_one(self):
        self.assertEqual(len(limits_of("ab")), 126 + 18 + 15 + 90)
        for limit in limits_of("ab"):
            self.assertIs(is_limit(limit), True, limit)

    def test_least_and_greatest_count_and_span(self):
        for kind, least, greatest, shortest, longest in FORMS:
            for zones in ("a", "b", "ab"):
                for count in (least, greatest):
                    for span in (shortest, longest):
                        self.assertIs(is_limit(limit_of(kind, zones, count, span)), True)

    def test_one_beyond_on_both_sides(self):
        for kind, least, greatest, shortest, longest in FORMS:
            for zones in ("a", "b", "ab"):
                for count in (least - 1, greatest + 1):
                    self.assertIs(is_limit(limit_of(kind, zones, count, shortest)), False)
                    self.assertIs(is_limit(limit_of(kind, zones, count, longest)), False)
                if shortest is not None:
                    for span in (shortest - 1, longest + 1):
                        self.assertIs(is_limit((kind, zones, least, span)), False)
                        self.assertIs(is_limit((kind, zones, greatest, span)), False)

    def test_bounds_written_out(self):
        for right in [("most", "a", 0, 1), ("most", "ab", 6, 6), ("row", "b", 0), ("row", "a", 5),
                      ("gap", "a", 1), ("gap", "ab", 5), ("starts", "a", 0, 1), ("starts", "b", 5, 5)]:
            self.assertIs(is_limit(right), True, right)
        for wrong in [("most", "a", -1, 1), ("most", "a", 7, 6), ("most", "a", 6, 0), ("most", "a", 6, 7),
                      ("row", "a", -1), ("row", "a", 6), ("gap", "a", 0), ("gap", "a", 6),
                      ("starts", "a", -1, 1), ("starts", "a", 6, 5), ("starts", "a", 5, 0), ("starts", "a", 5, 6)]:
            self.assertIs(is_limit(wrong), False, wrong)

    def test_zones(self):
        for kind, least, _, shortest, _ in FORMS:
            for zones in ("a", "b", "ab"):
                self.assertIs(is_limit(limit_of(kind, zones, least, shortest)), True)
            for zones in ("ba", "", "c", "aa", "bb", ".", "abc", "A", ".a", "a ", ("a",), ["a"], ("a", "b"), None, 0):
                self.assertIs(is_limit(limit_of(kind, zones, least, shortest)), False, zones)

    def test_true_and_false_are_no_integers(self):
        for wrong in [("most", "a", True, 4), ("most", "a", False, 4), ("most", "a", 2, True),
                      ("row", "a", True), ("row", "a", False), ("gap", "a", True),
                      ("starts", "a", True, 3), ("starts", "a", False, 3), ("starts", "a", 1, True)]:
            self.assertIs(is_limit(wrong), False, wrong)

    def test_wrong_kinds_and_lengths(self):
        for wrong in [(), ("most",), ("most", "a"), ("most", "a", 2), ("most", "a", 2, 4, 4), ("row", "a"),
                      ("row", "a", 2, 4), ("gap", "a"), ("gap", "a", 2, 4), ("starts", "a", 1),
                      ("starts", "a", 1, 3, 3), ("least", "a", 2, 4), ("Most", "a", 2, 4), ("mos", "a", 2, 4),
                      ["most", "a", 2, 4], "most", ("most", "a", "2", 4), ("most", "a", 2, None)]:
            self.assertIs(is_limit(wrong), False, wrong)

    def test_any_candidate(self):
        for candidate in ANYTHING:
            self.assertIs(is_limit(candidate), plain_is_limit(candidate, "ab"), candidate)

    def test_spoiled_limits(self):
        for limit in [("most", "a", 2, 4), ("row", "ab", 2), ("gap", "b", 3), ("starts", "ab", 1, 5)]:
            for candidate in spoiled(limit):
                self.assertIs(is_limit(candidate), plain_is_limit(candidate, "ab"))


class BookTest(unittest.TestCase):
    def test_ordinary_books(self):
        for book in [SHORT, TWO, ("a", ()), ("ab", ())]:
            self.assertIs(is_book(book), True)

    def test_books_of_one_limit(self):
        for limit in limits_of("ab"):
            self.assertIs(is_book(("ab", (limit,))), True)
            self.assertIs(is_book(("a", (limit,))), limit[1] == "a", limit)

    def test_zones_of_the_book_only(self):
        for kind, least, _, shortest, _ in FORMS:
            for zones in ("b", "ab"):
                limit = limit_of(kind, zones, least, shortest)
                self.assertIs(is_book(("a", (limit,))), False)
                self.assertIs(is_book(("a", (("row", "a", 2), limit))), False)
                self.assertIs(is_book(("ab", (limit,))), True)

    def test_at_most_four_limits(self):
        for many in range(8):
            self.assertIs(is_book(("a", (("row", "a", 2),) * many)), many <= 4)
            self.assertIs(is_book(("ab", tuple(limits_of("ab")[:many]))), many <= 4)

    def test_each_limit_counts(self):
        right = (("row", "a", 2), ("gap", "a", 2), ("most", "a", 2, 4), ("starts", "a", 1, 3))
        self.assertIs(is_book(("a", right)), True)
        for at in range(4):
            for wrong in ANYTHING:
                self.assertIs(is_book(("a", right[:at] + (wrong,) + right[at + 1:])), False)

    def test_other_zones(self):
        for zones in ("", "b", "ba", "c", "aa", "abc", "A", ".", ("a",), ["a"], None, 1, True):
            self.assertIs(is_book((zones, ())), False, zones)

    def test_lists_in_the_place_of_tuples(self):
        for wrong in [["a", ()], ("a", []), ("a", [("row", "a", 2)]), ("a", (["row", "a", 2],)), ["a", []]]:
            self.assertIs(is_book(wrong), False, wrong)

    def test_any_candidate(self):
        for candidate in ANYTHING:
            self.assertIs(is_book(candidate), plain_is_book(candidate), candidate)
            self.assertIs(is_book((candidate, ())), plain_is_book((candidate, ())))
            self.assertIs(is_book(("ab", candidate)), plain_is_book(("ab", candidate)))
            self.assertIs(is_book(("ab", (candidate,))), plain_is_book(("ab", (candidate,))))

    def test_spoiled_limits(self):
        for limit in [("most", "a", 2, 4), ("row", "a", 2), ("gap", "a", 3), ("starts", "a", 1, 5)]:
            for candidate in spoiled(limit):
                for zones in ("a", "ab"):
                    book = (zones, (candidate,))
                    self.assertIs(is_book(book), plain_is_book(book))


class CalendarTest(unittest.TestCase):
    def test_lengths(self):
        for book in [SHORT, TWO, ("a", ()), ("ab", ())]:
            for letter in "." + book[0]:
                self.assertIs(is_calendar(book, letter * 59), True)
                self.assertIs(is_calendar(book, letter * 60), True)
                self.assertIs(is_calendar(book, letter * 61), False)
                self.assertIs(is_calendar(book, letter * 1000), False)
            self.assertIs(is_calendar(book, ""), True)

    def test_days_of_the_book_only(self):
        self.assertIs(is_calendar(SHORT, "a.b"), False)
        self.assertIs(is_calendar(SHORT, "b"), False)
        self.assertIs(is_calendar(("a", ()), "b"), False)
        self.assertIs(is_calendar(TWO, "a.b"), True)
        self.assertIs(is_calendar(TWO, "b"), True)

    def test_other_letters(self):
        for wrong in ("c", "A", " ", "?", "p", "a\n", "\na", "a b", "..,", "a" * 30 + "x" + "a" * 29):
            self.assertIs(is_calendar(SHORT, wrong), False, wrong)
            self.assertIs(is_calendar(TWO, wrong), False, wrong)

    def test_calendars_that_are_not_allowed(self):
        self.assertIs(is_calendar(SHORT, "aaaaaa"), True)
        self.assertIs(is_calendar(TWO, "ababab"), True)

    def test_any_candidate(self):
        for book in [SHORT, TWO] + BOTH_ZONES:
            for candidate in ANYTHING:
                self.assertIs(is_calendar(book, candidate), plain_is_calendar(book[0], candidate))

    def test_invalid_book(self):
        for book in ANYTHING:
            if not plain_is_book(book):
                for candidate in ("", "a", "x", None, []):
                    with self.assertRaises(InvalidBook):
                        is_calendar(book, candidate)


class DaysTest(unittest.TestCase):
    def test_example(self):
        self.assertEqual(stays(TWO, "ab.a", "ab"), [(0, 1), (3, 3)])

    def test_days_in_each_zones(self):
        calendar = "ab..bba.a"
        self.assertEqual(days_in(TWO, calendar, "a"), [0, 6, 8])
        self.assertEqual(days_in(TWO, calendar, "b"), [1, 4, 5])
        self.assertEqual(days_in(TWO, calendar, "ab"), [0, 1, 4, 5, 6, 8])
        self.assertEqual(days_in(SHORT, "a..aa", "a"), [0, 3, 4])

    def test_stays_in_each_zones(self):
        calendar = "ab..bba.a"
        self.assertEqual(stays(TWO, calendar, "a"), [(0, 0), (6, 6), (8, 8)])
        self.assertEqual(stays(TWO, calendar, "b"), [(1, 1), (4, 5)])
        self.assertEqual(stays(TWO, calendar, "ab"), [(0, 1), (4, 6), (8, 8)])
        self.assertEqual(stays(SHORT, "a..aa", "a"), [(0, 0), (3, 4)])

    def test_no_days(self):
        for calendar in ("", ".", "." * 60):
            for zones in ("a", "b", "ab"):
                self.assertEqual(days_in(TWO, calendar, zones), [])
                self.assertEqual(stays(TWO, calendar, zones), [])
        self.assertEqual(days_in(TWO, "aaa", "b"), [])
        self.assertEqual(stays(TWO, "aaa", "b"), [])

    def test_all_days(self):
        self.assertEqual(days_in(SHORT, "a" * 60, "a"), list(range(60)))
        self.assertEqual(stays(SHORT, "a" * 60, "a"), [(0, 59)])
        self.assertEqual(stays(TWO, "ab" * 30, "ab"), [(0, 59)])
        self.assertEqual(stays(TWO, "ab" * 30, "a"), [(day, day) for day in range(0, 60, 2)])
        self.assertEqual(stays(TWO, "ab" * 30, "b"), [(day, day) for day in range(1, 60, 2)])

    def test_first_and_last_day(self):
        self.assertEqual(stays(TWO, "a...b", "a"), [(0, 0)])
        self.assertEqual(stays(TWO, "a...b", "b"), [(4, 4)])
        self.assertEqual(stays(TWO, "a...b", "ab"), [(0, 0), (4, 4)])
        self.assertEqual(days_in(TWO, "a...b", "ab"), [0, 4])
        self.assertEqual(stays(SHORT, "a" + "." * 58 + "a", "a"), [(0, 0), (59, 59)])

    def test_against_a_plain_reading(self):
        calendars = list(calendars_up_to("ab", 6)) + long_calendars("ab", 50, 1)
        for calendar in calendars:
            for zones in ("a", "b", "ab"):
                found = plain_stays(calendar, zones)
                self.assertEqual(stays(TWO, calendar, zones), found)
                days = [day for first, last in found for day in range(first, last + 1)]
                self.assertEqual(days_in(TWO, calendar, zones), days)

    def test_kinds_of_the_results(self):
        self.assertIs(type(days_in(TWO, "ab.a", "ab")), list)
        self.assertIs(type(stays(TWO, "ab.a", "ab")), list)
        for part in days_in(TWO, "ab.a", "ab"):
            self.assertIs(type(part), int)
        for part in stays(TWO, "ab.a", "ab"):
            self.assertIs(type(part), tuple)

    def test_the_limits_do_not_matter(self):
        self.assertEqual(stays(("ab", ()), "ab.a", "ab"), stays(TWO, "ab.a", "ab"))
        self.assertEqual(days_in(SHORT, "aaaaa", "a"), [0, 1, 2, 3, 4])

    def test_invalid_zones(self):
        for wrong in ANYTHING:
            for function in (days_in, stays):
                if wrong not in ("a", "b", "ab"):
                    with self.assertRaises(InvalidZones):
                        function(TWO, "ab.a", wrong)
                if wrong != "a":
                    with self.assertRaises(InvalidZones):
                        function(SHORT, "a", wrong)

    def test_invalid_calendar_before_zones(self):
        for wrong in ANYTHING:
            for book in (SHORT, TWO):
                if not plain_is_calendar(book[0], wrong):
                    for function in (days_in, stays):
                        for zones in ("a", "x", None, []):
                            with self.assertRaises(InvalidCalendar):
                                function(book, wrong, zones)

    def test_invalid_book_before_all(self):
        for wrong in ANYTHING:
            if not plain_is_book(wrong):
                for function in (days_in, stays):
                    for calendar, zones in [("a", "a"), ("x", "a"), ("a", "x"), (None, []), ([], None)]:
                        with self.assertRaises(InvalidBook):
                            function(wrong, calendar, zones)
