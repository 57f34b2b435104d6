"""Each example of the document, and what 0.2 promises over all books."""

import unittest

from staybounds.alike import are_alike, idle_limits, is_stricter, parting_calendar
from staybounds.asking import best_day, fewest_asked
from staybounds.books import is_book, is_limit, stays
from staybounds.breaches import breaches, thinned
from staybounds.desk import Desk
from staybounds.formats import format_book, format_calendar
from staybounds.groups import first_common, most_common
from staybounds.judging import first_broken, is_allowed, next_days
from staybounds.naive import all_calendars, naive_allowed, naive_parting
from staybounds.numbering import calendar_at, count_allowed
from staybounds.pasts import all_pasts, calendar_to
from staybounds.shares import best_loop, ceiling, greatest_share, is_ceiling, is_loop, share_of
from staybounds.sightings import fits, how_many
from staybounds.sure import can_be_one, least_wrong, sure_days
from staybounds.tuning import equal_counts, least_most
from staybounds.wishes import can_keep, days_kept, dead_day, keeping_loop, keeps, longest_kept
from tests.keeping import kept_level, plain_keeps, presents
from tests.listing import fitting, greatest_mean, walked_pasts, worth_of
from tests.samples import SHORT, TWO, calendars_up_to, limits_of, mixed_books
from tests.test_sightings import sightings


def one_limit_books():
    return [(zones, (limit,)) for zones in ("a", "ab") for limit in limits_of(zones)]


def many_books(seed):
    return [SHORT, TWO, ("a", ()), ("ab", ())] + one_limit_books()[::4] + mixed_books("a", 20, seed) + mixed_books("ab", 25, seed)


class ExamplesTest(unittest.TestCase):
    def test_stages_1_to_6(self):
        self.assertTrue(is_book(SHORT) and is_book(TWO))
        self.assertIs(is_limit(("row", "ba", 2)), False)
        self.assertEqual(stays(TWO, "ab.a", "ab"), [(0, 1), (3, 3)])
        self.assertEqual(first_broken(SHORT, "aa.a"), (3, 0))
        self.assertEqual(next_days(SHORT, "aa"), ["."])
        self.assertEqual(calendar_to(SHORT, "..a.."), "a..")
        self.assertEqual(share_of(SHORT, (1,), ("", "aa..")), (1, 2))
        self.assertEqual(greatest_share(SHORT, (1,)), (1, 2))
        self.assertIs(is_ceiling(SHORT, (1,), (1, 2), []), False)
        self.assertEqual(parting_calendar(SHORT, ("a", ())), "aaa")
        self.assertEqual(idle_limits(SHORT), [])
        self.assertEqual(equal_counts(SHORT, 0), [2])
        self.assertEqual(least_most(SHORT, "a", 6), 4)

    def test_stages_7_to_12(self):
        self.assertIs(keeps(SHORT, "", "a..a", (("a", 3),)), True)
        self.assertEqual(days_kept(SHORT, "aa", (("a", 1),)), 0)
        self.assertEqual(dead_day(SHORT, "aa", (("a", 2),)), 2)
        self.assertIs(fits(TWO, "p?", "b."), True)
        self.assertEqual(how_many(SHORT, "a?a?"), (1, 4))
        self.assertEqual(sure_days(SHORT, "a?a?"), "a.a.")
        self.assertEqual(least_wrong(SHORT, "aaaa"), 2)
        self.assertIs(can_be_one(SHORT, "aa??", "??a?"), False)
        self.assertEqual(fewest_asked(SHORT, "a?a?"), (1, 3))
        self.assertEqual(best_day(SHORT, "??"), 0)
        self.assertEqual(breaches(SHORT, "aa.a."), [(3, 0, 0)])
        self.assertEqual(thinned(SHORT, "aaaa"), "..aa")
        self.assertEqual(most_common(((SHORT, "", "a"), (SHORT, "aa", "a")), 4), 2)
        self.assertEqual(first_common(((SHORT, "", "a"), (SHORT, "aa", "a"))), 2)

    def test_stages_13_to_16(self):
        self.assertEqual(count_allowed(SHORT, 4), 11)
        self.assertEqual(calendar_at(SHORT, 4, 3), "..aa")
        self.assertEqual(format_book(SHORT), "zones a\nmost a at 2 in 4\n")
        self.assertEqual(format_calendar(SHORT, "a......a"), "a......\na\n")
        self.assertEqual(len(all_calendars(TWO, 2)), 9)
        self.assertIsNone(naive_parting(SHORT, ("a", ()), 2))
        desk = Desk(SHORT)
        desk.add("ann")
        self.assertEqual(desk.day((("ann", "a"),)), [])


class ForAllBooksTest(unittest.TestCase):
    def test_each_allowed_calendar_can_be_continued_by_staying_away(self):
        for book in many_books(181):
            for past in all_pasts(book)[::7]:
                calendar = calendar_to(book, past)
                self.assertTrue(is_loop(book, (calendar, ".")), (book, calendar))
                self.assertTrue(is_allowed(book, calendar + "." * (60 - len(calendar))))
        for book in many_books(182)[::5]:
            for calendar in calendars_up_to(book[0], 4):
                if is_allowed(book, calendar):
                    self.assertIn(".", next_days(book, calendar))
                    self.assertTrue(naive_allowed(book, calendar + "." * 20))

    def test_no_share_is_greater_than_the_greatest_one(self):
        for at, book in enumerate(many_books(183)[::2]):
            weights = (1, 9)[at % 2:at % 2 + 1] if book[0] == "a" else ((1, 1), (3, 8), (9, 0))[at % 3]
            share = greatest_share(book, weights)
            self.assertEqual(share, greatest_mean(walked_pasts(book), ".....", worth_of(book, weights)), book)
            self.assertEqual(share_of(book, weights, best_loop(book, weights)), share, book)
            self.assertTrue(is_ceiling(book, weights, share, ceiling(book, weights)), book)

    def test_books_are_alike_exactly_if_there_is_no_parting_calendar(self):
        alike = []
        for zones, seed in [("a", 184), ("ab", 185)]:
            books = mixed_books(zones, 60, seed)
            pairs = list(zip(books, books[1:])) + [(book, (zones, book[1][1:])) for book in books]
            for one, other in pairs + [(book, (zones, book[1][::-1])) for book in books[:5]]:
                parting = parting_calendar(one, other)
                alike.append(parting is None)
                self.assertIs(are_alike(one, other), parting is None)
                self.assertIs(is_stricter(one, other) and is_stricter(other, one), False)
                if parting is None:
                    self.assertEqual(all_pasts(one), all_pasts(other))
                    self.assertEqual(count_allowed(one, 60), count_allowed(other, 60))
                else:
                    self.assertNotEqual(naive_allowed(one, parting), naive_allowed(other, parting))
                    self.assertEqual(naive_allowed(one, parting[:-1]), naive_allowed(other, parting[:-1]))
        self.assertEqual(set(alike), {True, False})

    def test_wishes_can_be_kept_for_ever_exactly_if_for_any_number_of_days(self):
        lasting = []
        for book, calendar, wishes in presents(80, 186):
            lasting.append(can_keep(book, calendar, wishes))
            if lasting[-1]:
                self.assertIsNone(days_kept(book, calendar, wishes))
                begin, loop = keeping_loop(book, calendar, wishes)
                self.assertTrue(plain_keeps(book, calendar, begin + loop * (40 // len(loop) + 1), wishes))
            else:
                longest = longest_kept(book, calendar, wishes)
                self.assertTrue(plain_keeps(book, calendar, longest, wishes))
                self.assertEqual(kept_level(book, calendar, wishes, len(longest) + 1), [])
        self.assertEqual(set(lasting), {True, False})

    def test_what_is_sure_holds_in_all_allowed_calendars_that_fit(self):
        marks = {"?": ".ab", "p": "ab"}
        for at, book in enumerate(many_books(187)[::3]):
            for sighting in sightings(book[0], 4, 5, 9000 + at):
                allowed = [calendar for calendar in fitting(book, sighting) if naive_allowed(book, calendar)]
                if allowed:
                    told = sure_days(book, sighting)
                    for calendar in allowed:
                        for day, mark in zip(calendar, told):
                            self.assertIn(day, marks.get(mark, mark), (book, sighting))


if __name__ == "__main__":
    unittest.main()
