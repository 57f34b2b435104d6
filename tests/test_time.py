"""All calls end within some seconds, also with the greatest books (of four limits with the greatest spans)."""

import time
import unittest

from staybounds import (alike, asking, breaches, formats, groups, judging, naive, numbering, pasts, shares, sightings, sure,
                        tuning, wishes)
from staybounds.desk import Desk
from staybounds.errors import ParseError, TooLarge

SECONDS = 5

HEAVY = [
    ("ab", (("most", "a", 6, 6), ("most", "b", 6, 6), ("most", "ab", 6, 6), ("starts", "ab", 5, 5))),
    ("ab", (("most", "a", 3, 6), ("most", "b", 3, 6), ("most", "ab", 5, 6), ("starts", "ab", 2, 5))),
    ("ab", (("most", "ab", 5, 6), ("starts", "a", 2, 5), ("starts", "b", 2, 5), ("row", "ab", 5))),
    ("ab", (("row", "a", 5), ("row", "b", 4), ("gap", "a", 5), ("gap", "b", 5))),
    ("ab", ()),
]
LARGEST = (
    (("a", (("gap", "a", 2), ("starts", "a", 1, 5), ("most", "a", 6, 6), ("row", "a", 5))), "", "a"),
    (("ab", (("most", "b", 1, 2), ("most", "ab", 2, 3), ("most", "a", 6, 6), ("starts", "ab", 5, 5))), "", "ab"),
)
WISHES = [(("a", 5), ("b", 5), ("ab", 5)), (("a", 4), ("b", 3), ("ab", 2)), (("ab", 5),)]
SIGHTINGS = ["?" * 60, "p" * 60, "?p" * 30, "ab" * 30, "a????" * 12]
WEIGHTS = [(1, 1), (9, 8), (7, 9), (0, 1)]


class TimeTest(unittest.TestCase):
    def timed(self, function, *arguments):
        begin = time.perf_counter()
        answer = function(*arguments)
        self.assertLess(time.perf_counter() - begin, SECONDS, (function.__name__, arguments))
        return answer

    def test_pasts_and_two_books(self):
        for book in HEAVY:
            for past in self.timed(pasts.all_pasts, book)[::40]:
                self.timed(pasts.calendar_to, book, past)
            self.timed(alike.idle_limits, book)
            for other in HEAVY:
                for function in (alike.parting_calendar, alike.are_alike, alike.is_stricter):
                    self.timed(function, book, other)

    def test_shares(self):
        for book in HEAVY:
            for weights in WEIGHTS:
                share = self.timed(shares.greatest_share, book, weights)
                numbers = self.timed(shares.ceiling, book, weights)
                self.assertTrue(self.timed(shares.is_ceiling, book, weights, share, numbers))
                self.timed(shares.share_of, book, weights, self.timed(shares.best_loop, book, weights))
            self.timed(shares.is_loop, book, ("." * 300, "." * 300))

    def test_tuning(self):
        for book in HEAVY:
            for number in range(len(book[1])):
                self.timed(tuning.equal_counts, book, number)
                self.timed(tuning.nearest_counts, book, number)
            for zones in ("a", "b", "ab"):
                self.timed(tuning.longest_stay, book, zones)
                self.timed(tuning.least_most, book, zones, 6)

    def test_wishes(self):
        for book in HEAVY:
            for calendar in ("." * 60, "a" + "." * 59, "..ab" * 15):
                if judging.is_allowed(book, calendar):
                    for wanted in WISHES:
                        for function in (wishes.days_kept, wishes.longest_kept, wishes.can_keep, wishes.keeping_loop,
                                         wishes.dead_day):
                            self.timed(function, book, calendar, wanted)
                        self.timed(wishes.keeping_share, book, calendar, wanted, (9, 8))
                        self.timed(wishes.keeps, book, calendar, "ab." * 20, wanted)

    def test_sightings(self):
        for book in HEAVY:
            for sighting in SIGHTINGS:
                for function in (sightings.verdict, sightings.how_many, sightings.first_allowed,
                                 sightings.first_forbidden, sure.least_wrong, sure.corrected):
                    self.timed(function, book, sighting)
                if sightings.first_allowed(book, sighting) is not None:
                    self.timed(sure.sure_days, book, sighting)
                self.timed(sure.can_be_one, book, sighting, "?" * 60)

    def test_asking(self):
        for book in HEAVY:
            for sighting in ("?" * 8 + "." * 52, "." * 26 + "?p" * 4 + "." * 26, "..b...?" * 8, "p" * 8 + "ab.b" * 13):
                self.timed(asking.fewest_asked, book, sighting)
                self.timed(asking.settles, book, sighting, tuple(range(60)[:len(sighting)]))
            for sighting in SIGHTINGS:
                self.timed(asking.best_day, book, sighting)

    def test_breaches(self):
        for book in HEAVY:
            for calendar in ("ab" * 30, "a" * 60, "a.b." * 15, "." * 60, "aaabbb." * 8):
                for function in (breaches.breaches, breaches.broken_days, breaches.fewest_away, breaches.thinned):
                    self.timed(function, book, calendar)
                for number in range(len(book[1])):
                    self.timed(breaches.breaches_of, book, calendar, number)

    def test_groups(self):
        few = ("ab", (("most", "ab", 1, 5), ("most", "a", 6, 6), ("most", "b", 6, 6), ("starts", "ab", 5, 5)))
        free = ("a", (("most", "a", 6, 6), ("row", "a", 5), ("gap", "a", 1), ("starts", "a", 5, 5)))
        for one in HEAVY + [few, free, LARGEST[0][0]]:
            for other in HEAVY + [few, free, LARGEST[1][0]]:
                group = ((one, "." * 60, one[0]), (other, "a", "a"))
                calls = [(groups.most_common, group, 20), (groups.common_plan, group, 20), (groups.first_common, group)]
                for call in calls + [(groups.most_common, group[:1], 20), (groups.first_common, group[1:])]:
                    try:
                        self.timed(*call)
                    except TooLarge:
                        self.assertEqual(len(call[1]), 2)
        # Just 2000 tuples of pasts.
        self.timed(groups.common_plan, LARGEST, 20)
        self.timed(groups.first_common, LARGEST)

    def test_numbering(self):
        for book in HEAVY:
            total = self.timed(numbering.count_allowed, book, 60)
            for many in (0, 20, 40, 60):
                self.timed(numbering.count_with, book, 60, many)
            for number in (0, total // 3, total - 1):
                calendar = self.timed(numbering.calendar_at, book, 60, number)
                self.assertEqual(self.timed(numbering.number_of, book, calendar), number)

    def test_formats(self):
        for book in HEAVY:
            self.assertEqual(self.timed(formats.parse_book, self.timed(formats.format_book, book)), book)
            text = self.timed(formats.format_calendar, book, "ab." * 20)
            self.assertEqual(self.timed(formats.parse_calendar, book, text), "ab." * 20)
            for wrong in ("zones ab\n" * 100000, "a" * 1000000, "\n" * 1000000, " " * 1000000):
                with self.assertRaises(ParseError):
                    self.timed(formats.parse_book, wrong)
                with self.assertRaises(ParseError):
                    self.timed(formats.parse_calendar, book, wrong)

    def test_naive(self):
        for book in HEAVY:
            self.timed(naive.all_calendars, book, 6)
            self.timed(naive.naive_count, book, 6)
            for calendar in ("ab" * 30, "a.b." * 15, "." * 60):
                self.timed(naive.naive_allowed, book, calendar)
            for other in HEAVY:
                self.timed(naive.naive_parting, book, other, 6)

    def test_desk(self):
        for book in HEAVY:
            desk = Desk(book)
            for name in ("a", "b", "c", "d", "e"):
                self.timed(desk.add, name)
            for day in range(60):
                self.timed(desk.day, (("a", "a"), ("c", "b"), ("e", "ab"[day % 2])))
            for call in (desk.broken, desk.copy, desk.names, desk.editions, desk.undo, desk.redo):
                self.timed(call)
            self.timed(desk.save, "all")
            for _ in range(500):
                self.timed(desk.load, "all")
            self.timed(desk.set_limits, HEAVY[0][1])
            self.timed(desk.may, "a")
            self.timed(desk.remove, "a")


if __name__ == "__main__":
    unittest.main()
