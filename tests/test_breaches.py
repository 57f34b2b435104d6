"""11.1 and 11.2."""

import unittest
from itertools import combinations

from staybounds.breaches import breaches, breaches_of, broken_days, fewest_away, thinned
from staybounds.errors import InvalidBook, InvalidCalendar, InvalidNumber
from staybounds.judging import first_broken, is_allowed
from tests.plainly import plain_breaches
from tests.samples import ANYTHING, SHORT, TWO, calendars_up_to, limits_of, long_calendars, mixed_books

FREE = ("ab", ())
NONE_IN = ("ab", (("row", "ab", 0),))
MANY = ("a", (("starts", "a", 1, 3), ("most", "a", 1, 4), ("gap", "a", 3), ("row", "a", 1)))


def of_a(*limits):
    return ("a", limits)


def of_ab(*limits):
    return ("ab", limits)


class BreachesTest(unittest.TestCase):
    def check(self, book, calendar, wanted):
        self.assertEqual(breaches(book, calendar), wanted, (book, calendar))
        self.assertEqual(plain_breaches(book, calendar), wanted, (book, calendar))

    def test_example(self):
        self.check(SHORT, "aa.a.", [(3, 0, 0)])

    def test_most(self):
        self.check(SHORT, "", [])
        self.check(SHORT, "aa..aa", [])
        self.check(SHORT, "aaa", [(2, 0, -1)])
        self.check(SHORT, "aaa.", [(2, 0, -1), (3, 0, 0)])
        self.check(SHORT, "aaaa...", [(2, 0, -1), (3, 0, 0), (4, 0, 1)])
        self.check(of_a(("most", "a", 0, 6)), "a", [(0, 0, -5)])
        self.check(of_a(("most", "a", 0, 6)), "a......", [(day, 0, day - 5) for day in range(6)])
        self.check(of_a(("most", "a", 0, 1)), ".a.a", [(1, 0, 1), (3, 0, 3)])
        self.check(of_ab(("most", "ab", 1, 2), ("most", "b", 1, 2)), "abb", [(1, 0, 0), (2, 0, 1), (2, 1, 1)])

    def test_starts(self):
        self.check(of_a(("starts", "a", 0, 5)), "aa", [(0, 0, -4), (1, 0, -3)])
        self.check(of_a(("starts", "a", 1, 3)), "a.a.", [(2, 0, 0)])
        self.check(of_a(("starts", "a", 1, 5)), "a.a...", [(2, 0, -2), (3, 0, -1), (4, 0, 0)])
        self.check(of_a(("starts", "a", 2, 5)), "a.a.aaaa", [(4, 0, 0)])
        self.check(of_ab(("starts", "a", 1, 3), ("starts", "ab", 1, 3)), "aba.", [(2, 0, 0)])

    def test_row(self):
        self.check(of_a(("row", "a", 2)), "aaaa.aaa", [(2, 0, 0), (3, 0, 0), (7, 0, 5)])
        self.check(of_a(("row", "a", 0)), ".aa", [(1, 0, 1), (2, 0, 1)])
        self.check(of_a(("row", "a", 5)), "a" * 8, [(5, 0, 0), (6, 0, 0), (7, 0, 0)])
        self.check(of_ab(("row", "ab", 1), ("row", "b", 1)), "abb.", [(1, 0, 0), (2, 0, 0), (2, 1, 1)])

    def test_gap(self):
        self.check(of_a(("gap", "a", 2)), "a.a..a.aa.a", [(2, 0, 0), (7, 0, 5), (10, 0, 8)])
        self.check(of_a(("gap", "a", 1)), "a.a.a", [])
        self.check(of_a(("gap", "a", 5)), "..aaa....aa.....a", [(9, 0, 4)])
        self.check(of_ab(("gap", "a", 2), ("gap", "ab", 2)), "aba.b", [(2, 0, 0), (4, 1, 2)])

    def test_several_limits_on_one_day(self):
        self.check(MANY, "a.aa", [(2, 0, 0), (2, 1, -1), (2, 2, 0), (3, 1, 0), (3, 3, 2)])
        self.check(of_a(("row", "a", 0), ("row", "a", 0), ("most", "a", 0, 2)), "a", [(0, 0, 0), (0, 1, 0), (0, 2, -1)])

    def compare(self, book, calendar):
        wanted = plain_breaches(book, calendar)
        found = breaches(book, calendar)
        case = (book, calendar)
        self.assertEqual(found, wanted, case)
        self.assertEqual(found, sorted(set(found)), case)
        self.assertEqual(broken_days(book, calendar), sorted({day for day, _, _ in wanted}), case)
        for number in range(len(book[1])):
            of_it = [breach for breach in wanted if breach[1] == number]
            self.assertEqual(breaches_of(book, calendar, number), of_it, case)
        self.assertIs(found == [], is_allowed(book, calendar), case)
        if found:
            self.assertEqual(found[0][:2], first_broken(book, calendar), case)

    def test_each_limit_against_looking_at_all(self):
        calendars = list(calendars_up_to("a", 6)) + long_calendars("a", 10, 121)
        for limit in limits_of("a"):
            for calendar in calendars:
                self.compare(("a", (limit,)), calendar)
        calendars = list(calendars_up_to("ab", 3)) + long_calendars("ab", 20, 122)
        for limit in limits_of("ab"):
            for calendar in calendars:
                self.compare(("ab", (limit,)), calendar)

    def test_several_limits_against_looking_at_all(self):
        for book in [SHORT, MANY] + mixed_books("a", 30, 123):
            for calendar in list(calendars_up_to("a", 6)) + long_calendars("a", 10, 124):
                self.compare(book, calendar)
        for book in [TWO, FREE, NONE_IN] + mixed_books("ab", 30, 125):
            for calendar in list(calendars_up_to("ab", 4)) + long_calendars("ab", 10, 126):
                self.compare(book, calendar)


class BrokenDaysTest(unittest.TestCase):
    def test_each_day_once(self):
        self.assertEqual(broken_days(MANY, "a.aa"), [2, 3])
        self.assertEqual(broken_days(SHORT, "aaaa..."), [2, 3, 4])
        self.assertEqual(broken_days(SHORT, "aa..aa"), [])
        self.assertEqual(broken_days(NONE_IN, "." * 59 + "b"), [59])


class BreachesOfTest(unittest.TestCase):
    def test_each_number(self):
        for number, wanted in [(0, [(2, 0, 0)]), (1, [(2, 1, -1), (3, 1, 0)]), (2, [(2, 2, 0)]), (3, [(3, 3, 2)])]:
            self.assertEqual(breaches_of(MANY, "a.aa", number), wanted)
        self.assertEqual(breaches_of(MANY, "", 3), [])

    def test_invalid_number(self):
        for book in (SHORT, TWO, MANY, FREE):
            for wrong in [True, False, -1, len(book[1]), len(book[1]) + 1, 10 ** 30, "0", "", None, (0,), [0], ()]:
                with self.assertRaises(InvalidNumber, msg=wrong):
                    breaches_of(book, "a", wrong)
        for wrong in ANYTHING:
            if not (type(wrong) is int and 0 <= wrong < 4):
                with self.assertRaises(InvalidNumber):
                    breaches_of(MANY, "a", wrong)


def plain_thinned(book, calendar):
    """The fewest days that must become away, by trying all lots, and the first calendar with so few."""
    inside = [day for day, letter in enumerate(calendar) if letter != "."]
    for many in range(len(inside) + 1):
        found = []
        for lot in combinations(inside, many):
            other = "".join("." if day in lot else letter for day, letter in enumerate(calendar))
            if is_allowed(book, other):
                found.append(other)
        if found:
            return many, min(found)
    raise AssertionError("being away is always allowed")


class ThinnedTest(unittest.TestCase):
    def test_examples(self):
        self.assertEqual(thinned(SHORT, "aaaa"), "..aa")
        self.assertEqual(fewest_away(SHORT, "aaaa"), 2)

    def test_written_out(self):
        for book, calendar, many, other in [
            (SHORT, "", 0, ""), (SHORT, "aa.", 0, "aa."), (SHORT, "aaa", 1, ".aa"), (SHORT, "aa.a", 1, ".a.a"),
            (SHORT, "aaa...", 1, ".aa..."), (TWO, "aba", 1, ".ba"), (TWO, "a.a", 1, "..a"), (TWO, "a.b.a", 0, "a.b.a"),
            (TWO, "abab", 1, "ab.b"), (TWO, "aaaa", 2, "..aa"), (NONE_IN, "ab.ab", 4, "....."), (FREE, "abab", 0, "abab"),
            (of_a(("gap", "a", 2)), "aa.aa.aa", 2, "a..a..aa"), (of_ab(("row", "a", 0)), "aba", 2, ".b."),
            (of_a(("starts", "a", 1, 5)), "aa.aa", 2, "...aa"), (of_a(("starts", "a", 1, 4)), "a.aaa", 1, "..aaa"),
        ]:
            self.assertEqual(fewest_away(book, calendar), many, (book, calendar))
            self.assertEqual(thinned(book, calendar), other, (book, calendar))

    def test_no_day_comes_to_be_in_another_zone(self):
        self.assertEqual(thinned(of_ab(("row", "b", 1)), "bbb"), "b.b")
        self.assertEqual(thinned(of_ab(("row", "a", 0)), "aaa"), "...")

    def compare(self, book, calendar):
        many, other = plain_thinned(book, calendar)
        self.assertEqual(fewest_away(book, calendar), many, (book, calendar))
        self.assertEqual(thinned(book, calendar), other, (book, calendar))

    def test_against_trying_all(self):
        for book in [SHORT, MANY, ("a", ())] + [("a", (limit,)) for limit in limits_of("a")[::4]] + mixed_books("a", 15, 127):
            for calendar in list(calendars_up_to("a", 6))[::2] + ["aaaaaaaa", "aaa.aaaa", "a.a.a.a."]:
                self.compare(book, calendar)
        for book in [TWO, FREE, NONE_IN] + mixed_books("ab", 20, 128):
            for calendar in list(calendars_up_to("ab", 5))[::9] + ["abababa", "aabbabb", "a.b.aabb"]:
                self.compare(book, calendar)

    def test_calendars_of_60_days(self):
        self.assertEqual(fewest_away(SHORT, "a" * 60), 30)
        self.assertEqual(thinned(SHORT, "a" * 60), "..aa" * 15)
        self.assertEqual(fewest_away(SHORT, "aa.." * 15), 0)
        self.assertEqual(thinned(SHORT, "aa.." * 15), "aa.." * 15)
        self.assertEqual(fewest_away(NONE_IN, "ab" * 30), 60)
        self.assertEqual(thinned(NONE_IN, "ab" * 30), "." * 60)
        for book, calendar in zip(mixed_books("ab", 40, 129), long_calendars("ab", 40, 130)):
            other = thinned(book, calendar)
            self.assertTrue(is_allowed(book, other))
            changed = [(one, two) for one, two in zip(calendar, other) if one != two]
            self.assertEqual({two for one, two in changed} - {"."}, set())
            self.assertEqual(len(other), len(calendar))
            self.assertEqual(len(changed), fewest_away(book, calendar))
            self.assertIs(changed == [], is_allowed(book, calendar))

    def test_a_broken_limit_far_apart(self):
        parts = ["aaa....", "aa.a...", "aa.....", "aaaa..."]
        for calendar in ("".join(parts) * 2, "".join(parts[::-1]) * 2):
            self.assertEqual(fewest_away(SHORT, calendar), sum(plain_thinned(SHORT, part)[0] for part in parts) * 2)


class WrongArgumentsTest(unittest.TestCase):
    def test_order_of_errors(self):
        for book, calendar, error in [
            (None, None, InvalidBook), (["a", ()], "b", InvalidBook), (("a", (("gap", "a", 0),)), "", InvalidBook),
            (SHORT, "b", InvalidCalendar), (SHORT, "a" * 61, InvalidCalendar), (SHORT, ["a"], InvalidCalendar),
            (SHORT, None, InvalidCalendar), (TWO, "a?", InvalidCalendar), (TWO, ("a", "b"), InvalidCalendar),
        ]:
            for function in (breaches, broken_days, fewest_away, thinned):
                with self.assertRaises(error, msg=(function, book, calendar)):
                    function(book, calendar)
            for number in (0, 5, True, None):
                with self.assertRaises(error):
                    breaches_of(book, calendar, number)

    def test_any_kind(self):
        for value in ANYTHING:
            if type(value) is not str or set(value) - set(".a") or len(value) > 60:
                for function in (breaches, broken_days, fewest_away, thinned):
                    with self.assertRaises(InvalidCalendar):
                        function(SHORT, value)


if __name__ == "__main__":
    unittest.main()
