"""2.1 and 2.2, with 0.3, 0.4, 0.6 and 0.7."""

import unittest

from staybounds.errors import Broken, InvalidBook, InvalidCalendar
from staybounds.judging import first_broken, is_allowed, next_days, past_of
from tests.plainly import plain_first_broken, plain_is_book, plain_is_calendar
from tests.samples import ANYTHING, SHORT, TWO, calendars_up_to, limits_of, long_calendars, mixed_books

FUNCTIONS = [is_allowed, first_broken, past_of, next_days]


def alone(*limit):
    """The book with the zones "ab" that has just this limit."""
    return ("ab", (limit,))


class BrokenDayTest(unittest.TestCase):
    """The day on which each form of limit is broken (0.6)."""

    def check(self, limit, cases):
        for calendar, day in cases:
            with self.subTest(limit=limit, calendar=calendar):
                wanted = None if day is None else (day, 0)
                self.assertEqual(first_broken(("ab", (limit,)), calendar), wanted)
                self.assertIs(is_allowed(("ab", (limit,)), calendar), day is None)

    def test_most(self):
        self.check(("most", "a", 2, 4), [
            ("aa.a", 3), ("aaa", 2), ("a.aa", 3), ("aa..a", None), ("a..a..a", None), ("....aa.a", 7),
            ("aa..aa.a", 7), ("ababa", None), ("abaa", 3), ("bbbb", None), ("aa", None), ("", None),
        ])

    def test_most_of_the_longest_span(self):
        self.check(("most", "a", 1, 6), [("a....a", 5), ("a.....a", None), ("aa", 1)])
        self.check(("most", "a", 5, 6), [("aaaaaa", 5), ("aaaaa.a", None), ("aaaaa.aaaaaa", 11)])
        self.check(("most", "a", 6, 6), [("a" * 60, None)])

    def test_most_of_the_shortest_span(self):
        self.check(("most", "b", 0, 1), [("aaa", None), ("..b", 2)])
        self.check(("most", "b", 1, 1), [("b" * 60, None)])

    def test_row(self):
        self.check(("row", "a", 2), [
            ("aaa", 2), ("aa.aa", None), ("aa.aaa", 5), ("aaaaaa", 2), ("aabaa", None), (".aaa", 3), ("bbb", None),
        ])
        self.check(("row", "a", 5), [("aaaaa", None), ("aaaaaa", 5), (".aaaaa.aaaaaa", 12)])
        self.check(("row", "a", 1), [("a.a.a", None), ("aa", 1)])

    def test_gap(self):
        self.check(("gap", "a", 2), [
            ("a.a", 2), ("a..a", None), ("aa.aa", 3), ("aaaa", None), ("a..a.a", 5), ("abba", None), ("aba", 2),
            ("a.b.a", None), ("a", None), (".a.a", 3), ("b.a", None),
        ])
        self.check(("gap", "a", 1), [("a.a.a", None), ("aaa", None)])
        self.check(("gap", "a", 5), [("a....a", 5), ("a.....a", None), ("a.....a....aa", 11), ("aa....a", 6)])

    def test_starts(self):
        self.check(("starts", "a", 1, 3), [
            ("a.a", 2), ("a..a", None), ("aa.a", None), ("aaaa", None), ("a..a.a", 5), ("aba", 2), ("abba", None),
        ])
        self.check(("starts", "a", 1, 5), [("a...a", 4), ("a....a", None), ("aa..a", 4), ("aaa..a", None)])
        self.check(("starts", "a", 2, 5), [("a.a.a", 4), ("a.a..a", None), ("aa.a.a", None), (".a.a.a", 5)])
        self.check(("starts", "a", 5, 5), [("a." * 30, None)])
        self.check(("starts", "a", 0, 1), [("bbb", None), ("b.a", 2)])

    def test_counts_of_zero(self):
        for span in range(1, 7):
            self.check(("most", "a", 0, span), [("..a", 2), ("bb.b", None), ("a", 0), ("", None)])
        self.check(("row", "a", 0), [("..a", 2), ("bb.b", None), ("a", 0), ("", None)])
        for span in range(1, 6):
            self.check(("starts", "a", 0, span), [("..a", 2), ("bb.b", None), ("a", 0), ("", None)])
        self.check(("row", "ab", 0), [("..b", 2), ("..a", 2), ("....", None)])

    def test_a_stay_from_one_zone_into_the_other(self):
        self.check(("row", "ab", 2), [("abb", 2), ("bab", 2), ("ab.ba", None), ("ba.a", None)])
        self.check(("row", "a", 2), [("aabaa", None), ("abaaa", 4)])
        self.check(("row", "b", 2), [("aabaa", None), ("abbb", 3)])
        self.check(("gap", "ab", 2), [("abab", None), ("ab.b", 3), ("ab..b", None)])
        self.check(("gap", "a", 2), [("abab", 2), ("ab.a", None)])
        self.check(("gap", "b", 2), [("abab", 3), ("ba.b", None)])
        self.check(("starts", "ab", 1, 4), [("abab", None), ("ab.a", 3), ("abb.b", None)])
        self.check(("starts", "a", 1, 4), [("abab", 2), ("abb.a", None)])
        self.check(("starts", "b", 1, 4), [("abab", 3), ("abaa.b", None)])
        self.check(("most", "ab", 2, 3), [("aba", 2), ("ab.ba.ab.", None)])
        self.check(("most", "b", 1, 3), [("abaab", None), ("abab", 3)])

    def test_days_before_the_calendar_are_away(self):
        for day in "ab":
            self.check(("gap", "ab", 5), [(day, None)])
            self.check(("row", "ab", 1), [(day, None)])
            self.check(("most", "ab", 1, 6), [(day, None)])
            self.check(("starts", "ab", 1, 5), [(day, None)])
            self.check(("starts", "ab", 0, 5), [(day, 0)])
            self.check(("most", "ab", 0, 6), [(day, 0)])


class FirstBrokenTest(unittest.TestCase):
    def test_example(self):
        self.assertEqual(first_broken(SHORT, "aa.a"), (3, 0))

    def test_ordinary(self):
        self.assertIsNone(first_broken(SHORT, "aa..aa"))
        self.assertIs(is_allowed(SHORT, "aa..aa"), True)
        self.assertIs(is_allowed(SHORT, "aa.a"), False)
        self.assertEqual(first_broken(TWO, "ab.a"), None)
        self.assertEqual(first_broken(TWO, "aba"), (2, 0))
        self.assertEqual(first_broken(TWO, "a.a"), (2, 1))
        self.assertEqual(first_broken(TWO, "bbb"), (2, 0))
        self.assertEqual(first_broken(TWO, "b.b"), None)

    def test_two_limits_on_one_day(self):
        one, other = ("row", "a", 2), ("most", "a", 2, 4)
        for limits in [(one, other), (other, one), (one, one), (("row", "b", 0), one, other)]:
            wanted = len(limits) - 2
            self.assertEqual(first_broken(("ab", limits), "aaa"), (2, wanted))
        gap, starts = ("gap", "ab", 2), ("starts", "a", 1, 3)
        self.assertEqual(first_broken(("ab", (gap, starts)), "a.a"), (2, 0))
        self.assertEqual(first_broken(("ab", (("row", "b", 5), starts, gap)), "a.a"), (2, 1))

    def test_a_later_limit_on_an_earlier_day(self):
        book = ("ab", (("row", "a", 3), ("gap", "b", 2), ("most", "ab", 2, 3)))
        self.assertEqual(first_broken(book, "aaaa"), (2, 2))
        self.assertEqual(first_broken(book, "b.b.aaaa"), (2, 1))
        self.assertEqual(first_broken(book, "a..aaaa"), (5, 2))
        self.assertEqual(first_broken(("ab", (("row", "a", 2), ("row", "b", 0))), "baaa"), (0, 1))

    def test_each_number(self):
        limits = (("row", "a", 5), ("row", "b", 5), ("row", "ab", 5), ("gap", "a", 1))
        for number in range(4):
            book = ("ab", limits[:number] + (("row", "ab", 0),) + limits[number + 1:])
            self.assertEqual(first_broken(book, "..ab"), (2, number))

    def test_limits_of_all_zones_in_one_book(self):
        book = ("ab", (("row", "a", 2), ("row", "b", 1), ("row", "ab", 3), ("gap", "ab", 2)))
        self.assertEqual(first_broken(book, "aaa"), (2, 0))
        self.assertEqual(first_broken(book, "abb"), (2, 1))
        self.assertEqual(first_broken(book, "aaba"), (3, 2))
        self.assertEqual(first_broken(book, "aba"), None)
        self.assertEqual(first_broken(book, "aba.b"), (4, 3))
        self.assertEqual(first_broken(book, "aba..baa"), None)

    def test_days_that_come_later_never_mend(self):
        for book in [SHORT, TWO] + mixed_books("ab", 20, 2):
            for calendar in long_calendars(book[0], 20, 3):
                found = first_broken(book, calendar)
                if found is not None:
                    for many in range(len(calendar) + 1):
                        wanted = found if many > found[0] else None
                        self.assertEqual(first_broken(book, calendar[:many]), wanted)

    def test_books_without_limits(self):
        for calendar in ("", "a" * 60, "ab" * 30):
            self.assertIsNone(first_broken(("ab", ()), calendar))
            self.assertIs(is_allowed(("ab", ()), calendar), True)

    def test_the_last_of_sixty_days(self):
        self.assertEqual(first_broken(SHORT, "." * 57 + "aaa"), (59, 0))
        self.assertEqual(first_broken(SHORT, "." * 58 + "aa"), None)

    def test_kinds_of_the_results(self):
        found = first_broken(SHORT, "aa.a")
        self.assertIs(type(found), tuple)
        self.assertEqual([type(part) for part in found], [int, int])

    def test_is_allowed_exactly_where_nothing_is_broken(self):
        for book in [SHORT, TWO] + mixed_books("ab", 30, 4) + mixed_books("a", 30, 5):
            for calendar in calendars_up_to(book[0], 4):
                self.assertIs(is_allowed(book, calendar), first_broken(book, calendar) is None)


class PastTest(unittest.TestCase):
    def test_less_than_five_days(self):
        self.assertEqual(past_of(SHORT, ""), ".....")
        self.assertEqual(past_of(SHORT, "a"), "....a")
        self.assertEqual(past_of(SHORT, "a."), "...a.")
        self.assertEqual(past_of(TWO, "abab"), ".abab")

    def test_five_days(self):
        self.assertEqual(past_of(TWO, "ab..b"), "ab..b")
        self.assertEqual(past_of(SHORT, "aaaaa"), "aaaaa")

    def test_more_than_five_days(self):
        self.assertEqual(past_of(TWO, "bab..a"), "ab..a")
        self.assertEqual(past_of(TWO, "a" * 55 + "ba.ab"), "ba.ab")

    def test_calendars_that_are_not_allowed(self):
        self.assertEqual(past_of(SHORT, "aaaaaaa"), "aaaaa")

    def test_against_letters_one_by_one(self):
        for calendar in calendars_up_to("ab", 7):
            letters = [calendar[-back] if back <= len(calendar) else "." for back in (5, 4, 3, 2, 1)]
            self.assertEqual(past_of(TWO, calendar), "".join(letters))


class NextDaysTest(unittest.TestCase):
    def test_example(self):
        self.assertEqual(next_days(SHORT, "aa"), ["."])

    def test_ordinary(self):
        self.assertEqual(next_days(SHORT, ""), [".", "a"])
        self.assertEqual(next_days(SHORT, "aa."), ["."])
        self.assertEqual(next_days(SHORT, "aa.."), [".", "a"])
        self.assertEqual(next_days(TWO, ""), [".", "a", "b"])
        self.assertEqual(next_days(TWO, "a."), [".", "b"])
        self.assertEqual(next_days(TWO, "ab"), ["."])
        self.assertEqual(next_days(TWO, "b"), [".", "a", "b"])
        self.assertEqual(next_days(alone("row", "b", 0), "aaa"), [".", "a"])

    def test_a_calendar_of_sixty_days(self):
        self.assertEqual(next_days(SHORT, "." * 60), [".", "a"])
        self.assertEqual(next_days(SHORT, "." * 58 + "aa"), ["."])

    def check(self, book, calendars):
        for calendar in calendars:
            if is_allowed(book, calendar):
                found = next_days(book, calendar)
                wanted = [day for day in "." + book[0] if is_allowed(book, calendar + day)]
                self.assertEqual(found, wanted, (book, calendar))
                self.assertIn(".", found)
            else:
                with self.assertRaises(Broken):
                    next_days(book, calendar)

    def test_each_limit(self):
        calendars = list(calendars_up_to("ab", 3)) + [text[:59] for text in long_calendars("ab", 20, 6)]
        for limit in limits_of("ab"):
            self.check(("ab", (limit,)), calendars)
        calendars = list(calendars_up_to("a", 7))
        for limit in limits_of("a"):
            self.check(("a", (limit,)), calendars)

    def test_several_limits(self):
        for book in [SHORT, TWO] + mixed_books("ab", 25, 7) + mixed_books("a", 25, 8):
            self.check(book, list(calendars_up_to(book[0], 5)))

    def test_only_the_past_matters(self):
        for book in [SHORT, TWO] + [("ab", (limit,)) for limit in limits_of("ab")] + mixed_books("ab", 50, 9):
            after = {}
            for beginning in [""] + [".", "b", "a", "a.....b", "b.a.a", "aab", "bb.bb."]:
                for ending in ("", "a", ".b", "a..", "b...", "a....", "bb.ab", "a...a", ".....", "aaaaa", "babab"):
                    calendar = beginning + ending
                    if set(calendar) <= set("." + book[0]) and plain_first_broken(book, calendar) is None:
                        past = ("....." + calendar)[-5:]
                        found = next_days(book, calendar)
                        self.assertEqual(after.setdefault(past, found), found, (book, calendar))


class ArgumentsTest(unittest.TestCase):
    def test_invalid_book_before_all(self):
        for wrong in ANYTHING:
            if not plain_is_book(wrong):
                for function in FUNCTIONS:
                    for calendar in ("", "aaaa", "x", None, [], ("a",)):
                        with self.assertRaises(InvalidBook):
                            function(wrong, calendar)

    def test_invalid_calendar(self):
        for book in (SHORT, TWO, ("a", (("row", "a", 0),)), ("ab", ())):
            for wrong in ANYTHING:
                if not plain_is_calendar(book[0], wrong):
                    for function in FUNCTIONS:
                        with self.assertRaises(InvalidCalendar):
                            function(book, wrong)

    def test_invalid_calendar_before_broken(self):
        with self.assertRaises(InvalidCalendar):
            next_days(SHORT, "aaaab")
        with self.assertRaises(InvalidCalendar):
            next_days(SHORT, "a" * 61)
        with self.assertRaises(Broken):
            next_days(SHORT, "a" * 60)

    def test_every_calendar_that_is_one_is_answered(self):
        for book in (SHORT, TWO):
            for candidate in ANYTHING:
                if plain_is_calendar(book[0], candidate):
                    self.assertEqual(first_broken(book, candidate), plain_first_broken(book, candidate))
                    self.assertEqual(past_of(book, candidate), ("....." + candidate)[-5:])
