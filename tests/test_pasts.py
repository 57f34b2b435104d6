"""3.1, with 0.4, 0.6 and 0.7."""

import unittest

from staybounds.errors import InvalidBook, InvalidPast
from staybounds.judging import is_allowed, past_of
from staybounds.pasts import all_pasts, calendar_to
from tests.listing import allowed_up_to, walked_pasts
from tests.samples import ANYTHING, SHORT, TWO, calendars_up_to, limits_of, mixed_books

FREE = ("ab", ())


class PastsTest(unittest.TestCase):
    def test_examples(self):
        self.assertEqual(calendar_to(SHORT, "..a.."), "a..")
        self.assertEqual(len(all_pasts(SHORT)), 19)

    def test_books_written_out(self):
        self.assertEqual(all_pasts(("a", (("row", "a", 0),))), ["....."])
        self.assertEqual(all_pasts(("a", (("most", "a", 1, 5),))),
                         [".....", "....a", "...a.", "..a..", ".a...", "a...."])
        self.assertEqual(all_pasts(("ab", (("most", "a", 1, 5), ("most", "b", 0, 1)))),
                         [".....", "....a", "...a.", "..a..", ".a...", "a...."])
        self.assertEqual(len(all_pasts(("a", ()))), 32)
        self.assertEqual(len(all_pasts(FREE)), 243)

    def test_shortest_calendars(self):
        self.assertEqual(calendar_to(SHORT, "....."), "")
        self.assertEqual(calendar_to(SHORT, "....a"), "a")
        self.assertEqual(calendar_to(SHORT, "a.a.a"), "a.a.a")
        self.assertEqual(calendar_to(FREE, "b.bba"), "b.bba")
        self.assertIsNone(calendar_to(SHORT, "aaa.."))
        self.assertIsNone(calendar_to(SHORT, "aaaaa"))
        self.assertIsNone(calendar_to(TWO, "a.a.."))

    def test_a_calendar_that_must_be_longer_than_the_past(self):
        # The first day seen must not begin a stay, so days of the same stay come before it.
        book = ("a", (("starts", "a", 1, 5),))
        self.assertEqual(calendar_to(book, "aaa.a"), "aaaa.a")
        self.assertEqual(calendar_to(book, "a.a.."), "aaaa.a..")
        self.assertIsNone(calendar_to(book, ".a.a."))

    def compare(self, book, one_of):
        shortest = {}
        for calendar in allowed_up_to(book, 8):
            shortest.setdefault(past_of(book, calendar), calendar)
        self.assertEqual(all_pasts(book), sorted(shortest), book)
        pasts = [past for past in calendars_up_to(book[0], 5) if len(past) == 5]
        for past in pasts[::one_of]:
            self.assertEqual(calendar_to(book, past), shortest.get(past), (book, past))

    def test_each_limit_of_one_zone_against_listing(self):
        for limit in limits_of("a"):
            self.compare(("a", (limit,)), 1)

    def test_several_limits_of_one_zone_against_listing(self):
        for book in [SHORT, ("a", ())] + mixed_books("a", 40, 21):
            self.compare(book, 1)

    def test_two_zones_against_listing(self):
        for book in [TWO] + mixed_books("ab", 12, 22):
            self.compare(book, 5)

    def test_two_zones_against_walking(self):
        for book in [("ab", (limit,)) for limit in limits_of("ab")[::5]] + mixed_books("ab", 40, 23):
            pasts = all_pasts(book)
            self.assertEqual(pasts, sorted(walked_pasts(book)))
            self.assertEqual(pasts[0], ".....")
            self.assertEqual(len(pasts), len(set(pasts)))
            for past in pasts[::10]:
                calendar = calendar_to(book, past)
                self.assertTrue(is_allowed(book, calendar))
                self.assertEqual(past_of(book, calendar), past)


class WrongPastsTest(unittest.TestCase):
    def test_invalid_past(self):
        for wrong in ["....", "......", "", "....b", "..c..", "....A", "a....\n", list("....."), tuple("....."),
                      ("....", "."), None, 5, True, ["....."], (".....",), "?....", "p...."]:
            with self.assertRaises(InvalidPast, msg=wrong):
                calendar_to(SHORT, wrong)
        for wrong in ["....", "......", "....c", tuple("....b")]:
            with self.assertRaises(InvalidPast, msg=wrong):
                calendar_to(TWO, wrong)
        self.assertEqual(calendar_to(TWO, "....b"), "b")

    def test_invalid_book_comes_first(self):
        for wrong in [None, ["a", ()], ("b", ()), ("a", [("row", "a", 1)]), ("a", (("row", "a", True),))]:
            with self.assertRaises(InvalidBook):
                all_pasts(wrong)
            for past in [".....", "....", None]:
                with self.assertRaises(InvalidBook):
                    calendar_to(wrong, past)

    def test_any_kind_of_past(self):
        for wrong in ANYTHING:
            with self.assertRaises(InvalidPast):
                calendar_to(SHORT, wrong)


if __name__ == "__main__":
    unittest.main()
