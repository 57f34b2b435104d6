"""10.1 and 10.2."""

import unittest
from itertools import combinations

from staybounds.asking import best_day, fewest_asked, settles
from staybounds.errors import InvalidBook, InvalidDays, InvalidSighting, TooMany
from staybounds.judging import is_allowed
from staybounds.sightings import how_many
from tests.listing import fitting
from tests.samples import ANYTHING, SHORT, TWO, limits_of, mixed_books
from tests.test_sightings import sightings

FREE = ("ab", ())
NONE_IN = ("ab", (("row", "ab", 0),))
ALTERNATE = ("a", (("row", "a", 1),))


def judged(book, sighting):
    """All calendars that fit, each with whether it is allowed."""
    return [(calendar, is_allowed(book, calendar)) for calendar in fitting(book, sighting)]


def is_settled(fit, days):
    """Whether all answers for some days leave only allowed calendars, or none."""
    told = {}
    for calendar, allowed in fit:
        told.setdefault(tuple(calendar[day] for day in days), set()).add(allowed)
    return all(len(verdicts) == 1 for verdicts in told.values())


def unknown_in(sighting):
    return [day for day, mark in enumerate(sighting) if mark in "p?"]


def plain_fewest(fit, sighting):
    unknown = unknown_in(sighting)
    for many in range(len(unknown) + 1):
        for days in combinations(unknown, many):
            if is_settled(fit, days):
                return days
    raise AssertionError("all unknown days together settle each sighting")


def plain_best(fit, sighting):
    """The first of the days with the least number of allowed calendars in the worst case."""
    found = []
    for day in unknown_in(sighting):
        answers = {calendar[day] for calendar, allowed in fit}
        left = [len([1 for calendar, allowed in fit if allowed and calendar[day] == told]) for told in answers]
        found.append((max(left), day))
    return min(found)[1] if found else None


def drawn_cases():
    """Books with short sightings."""
    for at, book in enumerate([SHORT, ("a", ())] + [("a", (limit,)) for limit in limits_of("a")[::4]]
                              + mixed_books("a", 25, 111)):
        for sighting in sightings("a", 6, 7, 7000 + at):
            yield book, sighting
    for at, book in enumerate([TWO, FREE, NONE_IN] + mixed_books("ab", 20, 112)):
        for sighting in sightings("ab", 6, 5, 8000 + at):
            yield book, sighting


class FewestTest(unittest.TestCase):
    def test_example(self):
        self.assertEqual(fewest_asked(SHORT, "a?a?"), (1, 3))

    def test_written_out(self):
        for book, sighting, days in [
            (SHORT, "", ()), (SHORT, "a", ()), (SHORT, "aaa", ()), (SHORT, "?", ()), (SHORT, "??", ()),
            (SHORT, "???", (0, 1, 2)), (SHORT, "pp?", (2,)), (SHORT, "ppp?", ()), (SHORT, "aa?", (2,)),
            (SHORT, "aaa?????", ()), (SHORT, "?aa", (0,)), (SHORT, "a..?a", ()), (SHORT, "aa.?..?", (3,)),
            (SHORT, "a??", (1, 2)), (SHORT, "p", ()), (FREE, "????", ()), (NONE_IN, "???", (0, 1, 2)),
            (NONE_IN, "p?", ()), (NONE_IN, "?.?", (0, 2)), (TWO, "p.p", (0, 2)), (TWO, "a.p", (2,)), (TWO, "a.?", (2,)),
            (TWO, "ppp", ()), (TWO, "b.p", ()), (("ab", (("row", "a", 0),)), "pp", (0, 1)),
            (("ab", (("row", "ab", 1),)), "?p?", (0, 2)), (("ab", (("row", "ab", 1),)), "a?", (1,)),
        ]:
            self.assertEqual(fewest_asked(book, sighting), days, (book, sighting))

    def test_against_listing(self):
        for book, sighting in drawn_cases():
            wanted = plain_fewest(judged(book, sighting), sighting)
            found = fewest_asked(book, sighting)
            self.assertIs(type(found), tuple)
            self.assertEqual(found, wanted, (book, sighting))

    def test_long_sightings(self):
        self.assertEqual(fewest_asked(SHORT, "." * 56 + "a?a?"), (57, 59))
        self.assertEqual(fewest_asked(SHORT, "a?a?" + "." * 56), (1, 3))
        self.assertEqual(fewest_asked(SHORT, "?" * 8 + "." * 52), (0, 1, 2, 3, 4, 5, 6, 7))
        self.assertEqual(fewest_asked(SHORT, "aaa" + "?" * 8 + "." * 49), ())
        self.assertEqual(fewest_asked(NONE_IN, "?......" * 8), tuple(range(0, 56, 7)))
        for book in [TWO] + mixed_books("ab", 6, 113):
            for sighting in ["." * 20 + "a?." + "b" + "." * 20 + "p?.?", "?" + "..a" * 10 + "??" + "." * 20]:
                self.assertEqual(fewest_asked(book, sighting), plain_fewest(judged(book, sighting), sighting))


class SettlesTest(unittest.TestCase):
    def test_written_out(self):
        for book, sighting, days, wanted in [
            (SHORT, "a?a?", (1, 3), True), (SHORT, "a?a?", (1,), False), (SHORT, "a?a?", (3,), False),
            (SHORT, "a?a?", (), False), (SHORT, "a?a?", (0, 1, 2, 3), True), (SHORT, "a?a?", (0, 2), False),
            (SHORT, "a?a?", (0, 1, 3), True), (SHORT, "", (), True), (SHORT, "aaa", (), True), (SHORT, "aaa", (0,), True),
            (SHORT, "??", (), True), (SHORT, "aaa?", (), True), (TWO, "p.p", (0,), False), (TWO, "p.p", (0, 2), True),
            (TWO, "p.p", (0, 1), False), (TWO, "p.p", (0, 1, 2), True), (FREE, "????????", (), True),
        ]:
            self.assertIs(settles(book, sighting, days), wanted, (book, sighting, days))

    def test_against_listing(self):
        cases = list(drawn_cases())
        for at, (book, sighting) in enumerate(cases):
            fit = judged(book, sighting)
            # All days, those that were seen among them.
            for many in range(len(sighting) + 1):
                for days in list(combinations(range(len(sighting)), many))[at % 3::3]:
                    self.assertIs(settles(book, sighting, days), is_settled(fit, days), (book, sighting, days))

    def test_fewest_asked_settles_and_so_do_more_days(self):
        for book, sighting in list(drawn_cases())[::5]:
            days = fewest_asked(book, sighting)
            self.assertIs(settles(book, sighting, days), True)
            self.assertIs(settles(book, sighting, tuple(range(len(sighting)))), True)
            for at in range(len(days)):
                self.assertIs(settles(book, sighting, days[:at] + days[at + 1:]), False)

    def test_days_at_the_ends_of_a_long_sighting(self):
        self.assertIs(settles(SHORT, "?" + "." * 59, (0, 59)), True)
        self.assertIs(settles(SHORT, "." * 57 + "aa?", (59,)), True)
        self.assertIs(settles(SHORT, "." * 57 + "aa?", (0, 57, 58)), False)


class TooManyTest(unittest.TestCase):
    def test_eight_and_nine_unknown_days(self):
        for letters in ("?", "p", "?p"):
            for before in ("", "a.", "." * 50):
                eight = before + (letters * 8)[:8]
                fewest_asked(TWO, eight)
                settles(TWO, eight, ())
                for nine in (eight + "?", eight + "p"):
                    with self.assertRaises(TooMany):
                        fewest_asked(TWO, nine)
                    with self.assertRaises(TooMany):
                        settles(TWO, nine, (0,))

    def test_also_where_nothing_can_be_decided(self):
        for book, sighting in [(FREE, "?" * 9), (SHORT, "aaa" + "?" * 9), (NONE_IN, "p" * 9), (("a", ()), "p" * 60)]:
            with self.assertRaises(TooMany):
                fewest_asked(book, sighting)
            with self.assertRaises(TooMany):
                settles(book, sighting, ())


class BestDayTest(unittest.TestCase):
    def test_example(self):
        self.assertEqual(best_day(SHORT, "??"), 0)

    def test_written_out(self):
        for book, sighting, day in [
            (SHORT, "", None), (SHORT, "a", None), (SHORT, "aaa", None), (SHORT, "." * 60, None), (SHORT, "?", 0),
            (SHORT, "p", 0), (SHORT, "a?", 1), (SHORT, "???", 0), (SHORT, "aaa??", 3), (SHORT, "?a?", 0),
            (FREE, "p?", 1), (FREE, "?p", 0), (FREE, "pp?p?", 2), (FREE, ".p", 1), (NONE_IN, "??", 0), (NONE_IN, "pp", 0),
            (ALTERNATE, "a??", 2), (ALTERNATE, "?a??", 3), (TWO, "pp?", 0),
        ]:
            self.assertEqual(best_day(book, sighting), day, (book, sighting))

    def test_the_first_of_several(self):
        self.assertEqual(best_day(("a", ()), "a.??????"), 2)
        self.assertEqual(best_day(FREE, "?" * 60), 0)
        self.assertEqual(best_day(NONE_IN, "." * 30 + "?" * 30), 30)

    def test_against_listing(self):
        for book, sighting in drawn_cases():
            self.assertEqual(best_day(book, sighting), plain_best(judged(book, sighting), sighting), (book, sighting))

    def test_long_sightings_against_counting_for_each_answer(self):
        for book, sighting in [(SHORT, "?" * 60), (ALTERNATE, "??." * 20), (("a", (("gap", "a", 3),)), "?a.?" * 15),
                               (TWO, "ab.????" * 8 + "?p?p"), (FREE, "a" * 55 + "p?p??"), (TWO, "p" * 60)]:
            unknown = unknown_in(sighting)
            left = []
            for day in unknown:
                answers = "." + book[0] if sighting[day] == "?" else book[0]
                told = [how_many(book, sighting[:day] + answer + sighting[day + 1:])[0] for answer in answers]
                left.append((max(told), day))
            self.assertEqual(best_day(book, sighting), min(left)[1], (book, sighting))


class WrongArgumentsTest(unittest.TestCase):
    def test_invalid_days(self):
        for wrong in [(1, 0), (0, 0), (1, 1, 3), (-1,), (4,), (0, 4), (True,), (False,), (0, True), [0], [], 0, None,
                      "", "0", ("0",), ((0,),), (None,), (0, 1, 2, 3, 3), (0, 10 ** 30), (-10 ** 30, 0), (10 ** 6000,)]:
            with self.assertRaises(InvalidDays, msg=wrong):
                settles(SHORT, "a?a?", wrong)
        with self.assertRaises(InvalidDays):
            settles(SHORT, "", (0,))
        with self.assertRaises(InvalidDays):
            settles(SHORT, "?" * 8, (8,))

    def test_any_kind_of_days(self):
        for value in ANYTHING:
            if not (type(value) is tuple and all(type(day) is int for day in value)):
                with self.assertRaises(InvalidDays):
                    settles(SHORT, "a?a?", value)

    def test_order_of_errors(self):
        nine = "?" * 9
        for arguments, error in [
            ((None, None, None), InvalidBook), ((["a", ()], nine, [0]), InvalidBook), ((SHORT, "b", None), InvalidSighting),
            ((SHORT, "?" * 61, (0,)), InvalidSighting), ((SHORT, nine, [0]), InvalidDays), ((SHORT, nine, (9,)), InvalidDays),
            ((SHORT, nine, (1, 0)), InvalidDays), ((SHORT, nine, (0,)), TooMany), ((SHORT, nine, ()), TooMany),
        ]:
            with self.assertRaises(error, msg=arguments):
                settles(*arguments)
        for arguments, error in [((None, nine), InvalidBook), ((SHORT, nine + "b"), InvalidSighting),
                                 ((SHORT, [nine]), InvalidSighting), ((SHORT, nine), TooMany)]:
            with self.assertRaises(error, msg=arguments):
                fewest_asked(*arguments)
        for arguments, error in [((None, "b"), InvalidBook), ((SHORT, "b"), InvalidSighting), ((SHORT, None), InvalidSighting)]:
            with self.assertRaises(error, msg=arguments):
                best_day(*arguments)


if __name__ == "__main__":
    unittest.main()
