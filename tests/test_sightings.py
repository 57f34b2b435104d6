"""8.1 and 8.2, with 0.4 and 0.6."""

import random
import unittest

from staybounds.errors import InvalidBook, InvalidCalendar, InvalidSighting
from staybounds.judging import is_allowed
from staybounds.sightings import first_allowed, first_forbidden, fits, how_many, is_sighting, verdict
from tests.listing import fitting
from tests.samples import ANYTHING, SHORT, TWO, calendars_up_to, limits_of, mixed_books

FREE = ("ab", ())
NONE_IN = ("ab", (("row", "ab", 0),))
ALTERNATE = ("a", (("row", "a", 1),))
FUNCTIONS = [verdict, how_many, first_allowed, first_forbidden]


def fibonacci(many):
    """The number of the strings of so many letters of two kinds in which one kind has no two side by side."""
    one, other = 1, 2
    for _ in range(many):
        one, other = other, one + other
    return one


def sightings(zones, many, longest, seed):
    """Sightings of few letters, the same ones on every run, and the shortest of all."""
    draw = random.Random(seed)
    found = ["", "?", "p", ".", "a", "??", "pp", "a?a", "p.p", "?.?p"]
    for _ in range(many):
        letters = draw.choice(["?p", "?", "p", "?.", "?p." + zones, "??" + zones, "p." + zones, "." + zones])
        found.append("".join(draw.choice(letters) for _ in range(draw.randint(1, longest))))
    return found


class SightingTest(unittest.TestCase):
    def test_sightings(self):
        for right in ["", "?", "p", ".", "a", "a?p.", "?" * 60, "p" * 60, "a" * 60, "." * 60]:
            self.assertIs(is_sighting(SHORT, right), True, right)
            self.assertIs(is_sighting(TWO, right), True, right)
        self.assertIs(is_sighting(TWO, "ab?p."), True)

    def test_wrong_ones(self):
        for wrong in ["b", "a?b", "c", "P", "A", "?" * 61, "p" * 61, " ", "a ", "?\n", "\n", "*", "??" * 31,
                      ["?"], ("?",), ["a", "?"], None, 0, 1, True, False, (), []]:
            self.assertIs(is_sighting(SHORT, wrong), False, wrong)
        for wrong in ["c", "q", "AB", "a" * 61]:
            self.assertIs(is_sighting(TWO, wrong), False, wrong)

    def test_any_kind(self):
        for value in ANYTHING:
            wanted = type(value) is str and len(value) <= 60 and not set(value) - set(".ap?")
            self.assertIs(is_sighting(SHORT, value), wanted)


class FitsTest(unittest.TestCase):
    def test_example(self):
        self.assertIs(fits(TWO, "p?", "b."), True)

    def test_each_letter(self):
        for mark, days in [("?", ".ab"), ("p", "ab"), (".", "."), ("a", "a"), ("b", "b")]:
            for day in ".ab":
                self.assertIs(fits(TWO, mark, day), day in days, (mark, day))
        for mark, days in [("?", ".a"), ("p", "a"), (".", "."), ("a", "a")]:
            for day in ".a":
                self.assertIs(fits(SHORT, mark, day), day in days, (mark, day))

    def test_as_many_days(self):
        for sighting, calendar in [("?", ""), ("", "a"), ("?", "aa"), ("??", "a"), ("aa", "a"), ("a", "aa"),
                                   ("?" * 60, "." * 59), ("?" * 59, "." * 60)]:
            self.assertIs(fits(SHORT, sighting, calendar), False)
        for sighting, calendar in [("", ""), ("?" * 60, "." * 60), ("?p" * 30, "a" * 60)]:
            self.assertIs(fits(SHORT, sighting, calendar), True)

    def test_a_calendar_that_is_not_allowed_can_fit(self):
        self.assertIs(fits(SHORT, "a?a", "aaa"), True)

    def test_against_all_that_fit(self):
        calendars = list(calendars_up_to("ab", 4))
        for sighting in sightings("ab", 60, 4, 91):
            listed = fitting(TWO, sighting)
            for calendar in calendars:
                self.assertIs(fits(TWO, sighting, calendar), calendar in listed)


class VerdictTest(unittest.TestCase):
    def test_examples(self):
        self.assertEqual(how_many(SHORT, "a?a?"), (1, 4))

    def test_written_out(self):
        for book, sighting, allowed, fit, first, forbidden in [
            (SHORT, "", 1, 1, "", None), (SHORT, "?", 2, 2, ".", None), (SHORT, "aa", 1, 1, "aa", None),
            (SHORT, "aaa", 0, 1, None, "aaa"), (SHORT, "a?a?", 1, 4, "a.a.", "a.aa"), (SHORT, "???", 7, 8, "...", "aaa"),
            (SHORT, "????", 11, 16, "....", ".aaa"), (SHORT, "pp?", 1, 2, "aa.", "aaa"), (SHORT, "ppp?", 0, 2, None, "aaa."),
            (SHORT, "aaa???", 0, 8, None, "aaa..."), (TWO, "pp", 4, 4, "aa", None), (TWO, "ppp", 0, 8, None, "aaa"),
            (TWO, "p.p", 3, 4, "a.b", "a.a"), (TWO, "a.?", 2, 3, "a..", "a.a"), (FREE, "p?", 6, 6, "a.", None),
            (NONE_IN, "??", 1, 9, "..", ".a"), (NONE_IN, "p?", 0, 6, None, "a."), (TWO, "a?b", 1, 3, "a.b", "aab"),
            (TWO, "?a?", 5, 9, ".a.", "aaa"), (FREE, "?" * 3, 27, 27, "...", None),
        ]:
            self.assertEqual(how_many(book, sighting), (allowed, fit), (book, sighting))
            self.assertEqual(first_allowed(book, sighting), first, (book, sighting))
            self.assertEqual(first_forbidden(book, sighting), forbidden, (book, sighting))
            told = "allowed" if allowed == fit else "open" if allowed else "broken"
            self.assertEqual(verdict(book, sighting), told, (book, sighting))

    def test_a_sighting_that_is_a_calendar(self):
        for calendar in calendars_up_to("a", 6):
            allowed = is_allowed(SHORT, calendar)
            self.assertEqual(how_many(SHORT, calendar), (int(allowed), 1))
            self.assertEqual(verdict(SHORT, calendar), "allowed" if allowed else "broken")
            self.assertEqual(first_allowed(SHORT, calendar), calendar if allowed else None)
            self.assertEqual(first_forbidden(SHORT, calendar), None if allowed else calendar)

    def compare(self, book, sighting):
        listed = fitting(book, sighting)
        allowed = [calendar for calendar in listed if is_allowed(book, calendar)]
        broken = [calendar for calendar in listed if not is_allowed(book, calendar)]
        case = (book, sighting)
        self.assertEqual(how_many(book, sighting), (len(allowed), len(listed)), case)
        self.assertEqual(verdict(book, sighting), "broken" if not allowed else "open" if broken else "allowed", case)
        self.assertEqual(first_allowed(book, sighting), allowed[0] if allowed else None, case)
        self.assertEqual(first_forbidden(book, sighting), broken[0] if broken else None, case)

    def test_one_zone_against_listing(self):
        for at, book in enumerate([("a", (limit,)) for limit in limits_of("a")[::3]] + mixed_books("a", 30, 92)):
            for sighting in sightings("a", 8, 8, at):
                self.compare(book, sighting)

    def test_two_zones_against_listing(self):
        for at, book in enumerate([TWO, FREE, NONE_IN] + mixed_books("ab", 15, 93)):
            for sighting in sightings("ab", 7, 5, 1000 + at):
                self.compare(book, sighting)


class LongSightingsTest(unittest.TestCase):
    def test_numbers_are_exact(self):
        unknown = "?" * 60
        self.assertEqual(how_many(FREE, unknown), (3 ** 60, 3 ** 60))
        self.assertEqual(how_many(("a", ()), unknown), (2 ** 60, 2 ** 60))
        self.assertEqual(how_many(NONE_IN, unknown), (1, 3 ** 60))
        self.assertEqual(how_many(ALTERNATE, unknown), (fibonacci(60), 2 ** 60))
        self.assertEqual(how_many(("ab", (("row", "a", 0),)), unknown), (2 ** 60, 3 ** 60))
        self.assertEqual(how_many(("ab", (("row", "a", 0), ("row", "b", 1))), unknown), (fibonacci(60), 3 ** 60))

    def test_days_in_some_zone(self):
        inside = "p" * 60
        self.assertEqual(how_many(FREE, inside), (2 ** 60, 2 ** 60))
        self.assertEqual(how_many(("a", ()), inside), (1, 1))
        self.assertEqual(how_many(ALTERNATE, inside), (0, 1))
        self.assertEqual(how_many(("ab", (("row", "a", 1),)), inside), (fibonacci(60), 2 ** 60))
        self.assertEqual(how_many(("ab", (("row", "ab", 5),)), inside), (0, 2 ** 60))
        self.assertEqual(how_many(("ab", (("row", "a", 1), ("row", "b", 1))), inside), (2, 2 ** 60))

    def test_fibonacci(self):
        self.assertEqual([fibonacci(many) for many in range(6)], [1, 2, 3, 5, 8, 13])
        for many in range(8):
            self.assertEqual(how_many(ALTERNATE, "?" * many), (fibonacci(many), 2 ** many))

    def test_verdicts_and_first_ones(self):
        for sighting, told, first, forbidden in [
            ("?" * 60, "open", "." * 60, "." * 57 + "aaa"), ("p" * 60, "broken", None, "a" * 60),
            (".." * 30, "allowed", "." * 60, None),
            ("..pp" * 15, "allowed", "..aa" * 15, None), ("aaa" + "?" * 57, "broken", None, "aaa" + "." * 57),
            ("?" * 57 + "aaa", "broken", None, "." * 57 + "aaa"), ("?" * 58 + "aa", "open", "." * 58 + "aa", "." * 57 + "aaa"),
        ]:
            self.assertEqual(verdict(SHORT, sighting), told, sighting)
            self.assertEqual(first_allowed(SHORT, sighting), first, sighting)
            self.assertEqual(first_forbidden(SHORT, sighting), forbidden, sighting)

    def test_one_of_all_is_enough(self):
        self.assertEqual(verdict(NONE_IN, "?" * 60), "open")
        self.assertEqual(verdict(NONE_IN, "?" * 59 + "p"), "broken")
        self.assertEqual(verdict(FREE, "?" * 60), "allowed")
        self.assertEqual(verdict(("ab", (("starts", "a", 5, 5), ("gap", "ab", 1))), "?" * 60), "allowed")


class WrongArgumentsTest(unittest.TestCase):
    def test_order_of_errors(self):
        for function in FUNCTIONS:
            for book, sighting, error in [
                (None, None, InvalidBook), (["a", ()], "c", InvalidBook), (SHORT, "b", InvalidSighting),
                (SHORT, "?" * 61, InvalidSighting), (SHORT, ["?"], InvalidSighting), (SHORT, ("a", "?"), InvalidSighting),
                (TWO, "c", InvalidSighting), (TWO, None, InvalidSighting), (TWO, True, InvalidSighting),
            ]:
                with self.assertRaises(error, msg=(book, sighting)):
                    function(book, sighting)

    def test_order_of_errors_of_fits(self):
        for arguments, error in [
            ((None, None, None), InvalidBook), ((SHORT, "b", "c"), InvalidSighting), ((SHORT, "a", "c"), InvalidCalendar),
            ((SHORT, "aa", "?"), InvalidCalendar), ((SHORT, "?", "p"), InvalidCalendar), ((SHORT, "a", ["a"]), InvalidCalendar),
            ((SHORT, "?" * 61, "a"), InvalidSighting), ((SHORT, "?", "." * 61), InvalidCalendar),
            ((SHORT, "?", "b"), InvalidCalendar),
        ]:
            with self.assertRaises(error, msg=arguments):
                fits(*arguments)

    def test_is_sighting_of_no_book(self):
        with self.assertRaises(InvalidBook):
            is_sighting(("b", ()), "?")


if __name__ == "__main__":
    unittest.main()
