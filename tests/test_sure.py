"""9.1, 9.2 and 9.3, with 0.2 (e)."""

import unittest

from staybounds.errors import InvalidBook, InvalidSighting, NoneAllowed, OtherLength
from staybounds.judging import is_allowed
from staybounds.sure import can_be_one, corrected, least_wrong, sure_days
from tests.listing import fitting
from tests.samples import ANYTHING, SHORT, TWO, calendars_up_to, limits_of, long_calendars, mixed_books
from tests.test_sightings import sightings

FREE = ("ab", ())
NONE_IN = ("ab", (("row", "ab", 0),))


def surely(book, sighting):
    """What all allowed calendars that fit have in common, or None if there are none."""
    allowed = [calendar for calendar in fitting(book, sighting) if is_allowed(book, calendar)]
    if not allowed:
        return None
    told = ""
    for days in zip(*allowed):
        told += days[0] if len(set(days)) == 1 else "?" if "." in days else "p"
    return told


def wrong_days(sighting, calendar):
    """The number of the days on which a calendar does not have what was seen."""
    seen = {"p": "ab", "?": ".ab"}
    return len([day for mark, day in zip(sighting, calendar) if day not in seen.get(mark, mark)])


def books_of(zones, many, seed):
    return [(zones, (limit,)) for limit in limits_of(zones)[::len(limits_of(zones)) // 12]] + mixed_books(zones, many, seed)


class SureDaysTest(unittest.TestCase):
    def test_example(self):
        self.assertEqual(sure_days(SHORT, "a?a?"), "a.a.")

    def test_written_out(self):
        for book, sighting, told in [
            (SHORT, "", ""), (SHORT, "?", "?"), (SHORT, "p", "a"), (SHORT, "pp?", "aa."), (SHORT, "aa????", "aa..??"),
            (FREE, "p", "p"), (FREE, "?p.", "?p."), (FREE, "ab.", "ab."), (TWO, "pp?", "pp."), (TWO, "p.p", "p.p"),
            (TWO, "a.p", "a.b"), (TWO, "p.a", "b.a"), (TWO, "ap", "ap"),
            (("ab", (("row", "b", 0),)), "p?", "a?"), (("ab", (("row", "b", 0),)), "p" * 60, "a" * 60),
            (NONE_IN, "?" * 60, "." * 60), (("ab", (("row", "a", 1), ("row", "b", 1))), "appp?", "abab?"),
            (("ab", (("row", "a", 1), ("row", "b", 1))), "pppp", "pppp"),
            (("ab", (("row", "a", 1), ("row", "b", 1))), "pp" * 29 + "pa", "ba" * 30),
        ]:
            self.assertEqual(sure_days(book, sighting), told, (book, sighting))

    def test_none_allowed(self):
        for book, sighting in [(SHORT, "aaa"), (SHORT, "a?aa"), (NONE_IN, "?p"), (TWO, "ppp"), (TWO, "a?a"),
                               (SHORT, "p" * 60), (SHORT, "?" * 57 + "aaa")]:
            with self.assertRaises(NoneAllowed):
                sure_days(book, sighting)

    def compare(self, book, sighting):
        wanted = surely(book, sighting)
        if wanted is None:
            with self.assertRaises(NoneAllowed):
                sure_days(book, sighting)
        else:
            self.assertEqual(sure_days(book, sighting), wanted, (book, sighting))
            self.assertEqual(sure_days(book, wanted), wanted)

    def test_one_zone_against_listing(self):
        for at, book in enumerate(books_of("a", 30, 101)):
            for sighting in sightings("a", 12, 8, 2000 + at):
                self.compare(book, sighting)

    def test_two_zones_against_listing(self):
        for at, book in enumerate([TWO, FREE, NONE_IN] + books_of("ab", 25, 102)):
            for sighting in sightings("ab", 8, 5, 3000 + at):
                self.compare(book, sighting)

    def test_long_sightings(self):
        self.assertEqual(sure_days(SHORT, "?" * 60), "?" * 60)
        self.assertEqual(sure_days(FREE, "p" * 60), "p" * 60)
        self.assertEqual(sure_days(SHORT, "pp??" * 15), "aa.." * 15)


class LeastWrongTest(unittest.TestCase):
    def test_example(self):
        self.assertEqual(least_wrong(SHORT, "aaaa"), 2)
        self.assertEqual(corrected(SHORT, "aaaa"), "..aa")

    def test_written_out(self):
        for book, sighting, many, calendar in [
            (SHORT, "", 0, ""), (SHORT, "????", 0, "...."), (SHORT, "a?a?", 0, "a.a."), (SHORT, "aaa", 1, ".aa"),
            (SHORT, "ppp", 1, ".aa"), (SHORT, "a?aa", 1, "..aa"), (NONE_IN, "ab?p.", 3, "....."), (NONE_IN, "????", 0, "...."),
            (TWO, "ppp", 1, ".aa"), (TWO, "aba", 1, ".ba"), (TWO, "a.a", 1, "..a"), (TWO, "bbb", 1, ".bb"),
            (FREE, "ab.p?", 0, "ab.a."), (("ab", (("row", "a", 0),)), "aap", 2, "..b"),
            (("ab", (("row", "a", 0),)), "pp?", 0, "bb."), (("a", (("row", "a", 0),)), "." * 60, 0, "." * 60),
        ]:
            self.assertEqual(least_wrong(book, sighting), many, (book, sighting))
            self.assertEqual(corrected(book, sighting), calendar, (book, sighting))

    def compare(self, book, sighting):
        allowed = [calendar for calendar in fitting(book, "?" * len(sighting)) if is_allowed(book, calendar)]
        many, calendar = min((wrong_days(sighting, calendar), calendar) for calendar in allowed)
        self.assertEqual(least_wrong(book, sighting), many, (book, sighting))
        self.assertEqual(corrected(book, sighting), calendar, (book, sighting))

    def test_one_zone_against_listing(self):
        for at, book in enumerate(books_of("a", 20, 103)):
            for sighting in sightings("a", 8, 7, 4000 + at) + ["a" * 7, "p" * 6]:
                self.compare(book, sighting)

    def test_two_zones_against_listing(self):
        for at, book in enumerate([TWO, FREE, NONE_IN] + books_of("ab", 15, 104)):
            for sighting in sightings("ab", 6, 4, 5000 + at) + ["aaaaa", "ababa", "ppppp"]:
                self.compare(book, sighting)

    def test_an_unknown_day_is_never_wrong(self):
        for book in books_of("ab", 10, 105):
            self.assertEqual(least_wrong(book, "?" * 60), 0)
            self.assertEqual(corrected(book, "?" * 60), "." * 60)

    def test_long_sightings(self):
        self.assertEqual(least_wrong(SHORT, "a" * 60), 30)
        self.assertEqual(corrected(SHORT, "a" * 60), "..aa" * 15)
        self.assertEqual(least_wrong(SHORT, "p" * 60), 30)
        self.assertEqual(least_wrong(NONE_IN, "ab" * 30), 60)
        self.assertEqual(least_wrong(NONE_IN, "a?" * 30), 30)
        self.assertEqual(least_wrong(("ab", (("row", "a", 5),)), "a" * 60), 10)
        self.assertEqual(corrected(("ab", (("row", "a", 5),)), "a" * 60), ".aaaaa" * 10)

    def test_corrected_is_allowed_and_has_so_many_wrong(self):
        for book, sighting in zip(mixed_books("ab", 30, 106), long_calendars("ab", 30, 107)):
            calendar = corrected(book, sighting)
            self.assertTrue(is_allowed(book, calendar))
            self.assertEqual(len(calendar), len(sighting))
            self.assertEqual(wrong_days(sighting, calendar), least_wrong(book, sighting))
            self.assertEqual(least_wrong(book, sighting) == 0, is_allowed(book, sighting))


class CanBeOneTest(unittest.TestCase):
    def test_example(self):
        self.assertIs(can_be_one(SHORT, "aa??", "??a?"), False)

    def test_written_out(self):
        for book, one, other, wanted in [
            (SHORT, "", "", True), (SHORT, "aa??", "??.a", False), (SHORT, "aa??", "???.", True),
            (SHORT, "a", ".", False), (SHORT, "p", "a", True), (SHORT, "p", ".", False), (TWO, "p", "b", True),
            (TWO, "a", "b", False), (TWO, "ab?", "pp.", True), (TWO, "ab?", "ppp", False), (TWO, "a??", "?.a", False),
            (TWO, "a??", "?.p", True), (SHORT, "?" * 60, "." * 60, True), (SHORT, "p" * 60, "?" * 60, False),
            (FREE, "p" * 60, "ab" * 30, True), (FREE, "p" * 59 + ".", "ab" * 30, False), (SHORT, "aaa", "aaa", False),
        ]:
            self.assertIs(can_be_one(book, one, other), wanted, (book, one, other))
            self.assertIs(can_be_one(book, other, one), wanted, (book, one, other))

    def test_against_listing(self):
        for zones, longest, seed in [("a", 6, 108), ("ab", 4, 109)]:
            for at, book in enumerate(books_of(zones, 8, seed)):
                drawn = sightings(zones, 15, longest, 6000 + at)
                for one in drawn[::2]:
                    listed = [calendar for calendar in fitting(book, one) if is_allowed(book, calendar)]
                    for other in drawn:
                        if len(one) == len(other):
                            wanted = len(set(listed) & set(fitting(book, other))) > 0
                            self.assertIs(can_be_one(book, one, other), wanted, (book, one, other))


class WrongArgumentsTest(unittest.TestCase):
    def test_order_of_errors(self):
        for function in (sure_days, least_wrong, corrected):
            for book, sighting, error in [
                (None, None, InvalidBook), (["a", ()], "c", InvalidBook), (SHORT, "b", InvalidSighting),
                (SHORT, "?" * 61, InvalidSighting), (SHORT, ["?"], InvalidSighting), (SHORT, ("a", "?"), InvalidSighting),
                (TWO, "c", InvalidSighting), (TWO, None, InvalidSighting), (TWO, True, InvalidSighting),
                (SHORT, "aaab", InvalidSighting),
            ]:
                with self.assertRaises(error, msg=(book, sighting)):
                    function(book, sighting)

    def test_order_of_errors_of_two_sightings(self):
        for arguments, error in [
            ((None, "c", "c"), InvalidBook), ((SHORT, "b", "??"), InvalidSighting), ((SHORT, "?", "bb"), InvalidSighting),
            ((SHORT, "?", "??"), OtherLength), ((SHORT, "", "?"), OtherLength), ((SHORT, "aaa", "aaaa"), OtherLength),
            ((SHORT, ["?"], "?"), InvalidSighting), ((SHORT, "?", ("?",)), InvalidSighting),
            ((SHORT, "?" * 61, "?" * 60), InvalidSighting), ((SHORT, "?" * 60, "?" * 61), InvalidSighting),
            ((SHORT, None, None), InvalidSighting), ((TWO, "?" * 60, "." * 59), OtherLength),
        ]:
            with self.assertRaises(error, msg=arguments):
                can_be_one(*arguments)

    def test_any_kind(self):
        for value in ANYTHING:
            if type(value) is not str or set(value) - set(".ap?") or len(value) > 60:
                for function in (sure_days, least_wrong, corrected):
                    with self.assertRaises(InvalidSighting):
                        function(SHORT, value)
                with self.assertRaises(InvalidSighting):
                    can_be_one(SHORT, "?", value)

    def test_all_short_calendars_are_sure_of_themselves(self):
        for calendar in calendars_up_to("ab", 4):
            if is_allowed(TWO, calendar):
                self.assertEqual(sure_days(TWO, calendar), calendar)
                self.assertEqual(corrected(TWO, calendar), calendar)


if __name__ == "__main__":
    unittest.main()
