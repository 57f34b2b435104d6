"""7.3, with 0.2 (a), (d) and 4.1."""

import unittest

from staybounds.pasts import all_pasts, calendar_to
from staybounds.shares import greatest_share, is_loop
from staybounds.wishes import can_keep, dead_day, keeping_loop, keeping_share
from tests.keeping import keeping_walks, plain_keeps, presents
from tests.listing import greatest_mean, mean_of, worth_of
from tests.samples import SHORT, TWO, mixed_books

FREE = ("ab", ())
WEIGHTS = {"a": [(1,), (9,), (0,), (5,)], "ab": [(1, 1), (9, 2), (0, 3), (0, 0), (4, 9)]}


def weighted(presents_of):
    for at, (book, calendar, wishes) in enumerate(presents_of):
        weights = WEIGHTS[book[0]]
        yield book, calendar, wishes, weights[at % len(weights)]


class LoopTest(unittest.TestCase):
    def check(self, book, calendar, wishes):
        found = keeping_loop(book, calendar, wishes)
        if not can_keep(book, calendar, wishes):
            self.assertIsNone(found)
            return
        self.assertIs(type(found), tuple)
        begin, loop = found
        self.assertIs(type(begin), str)
        self.assertIs(type(loop), str)
        self.assertNotEqual(loop, "")
        self.assertLessEqual(max(len(begin), len(loop)), 300)
        for many in (0, 1, 2, 5, 12):
            days = begin + loop * many
            self.assertTrue(plain_keeps(book, calendar, days, wishes), (book, calendar, wishes, found))

    def test_written_out(self):
        self.assertEqual(set("".join(keeping_loop(("a", (("row", "a", 0),)), "", ()))), {"."})
        self.assertEqual(set(keeping_loop(("a", ()), "", (("a", 1),))[1]), {"a"})
        self.assertIsNone(keeping_loop(SHORT, "", (("a", 1),)))
        self.assertIsNone(keeping_loop(SHORT, "aa", (("a", 2),)))
        self.check(SHORT, "aa", (("a", 3),))
        self.check(FREE, "", (("a", 2), ("b", 2)))
        self.check(TWO, "ab", (("a", 4), ("b", 4)))

    def test_it_keeps_the_wishes(self):
        for book, calendar, wishes in presents(300, 81):
            self.check(book, calendar, wishes)

    def test_many_different_days(self):
        for book in [TWO] + mixed_books("ab", 40, 82):
            for wishes in [(("a", 3), ("b", 4)), (("a", 5), ("b", 5)), (("ab", 2), ("b", 5)), (("a", 4),)]:
                self.check(book, "", wishes)


class KeepingShareTest(unittest.TestCase):
    def test_written_out(self):
        for book, calendar, wishes, weights, share in [
            (SHORT, "", (), (1,), (1, 2)), (SHORT, "aa", (("a", 3),), (1,), (1, 2)), (SHORT, "aa", (("a", 3),), (9,), (9, 2)),
            (SHORT, "", (("a", 1),), (1,), None), (SHORT, "aa", (("a", 2),), (1,), None),
            (SHORT, "a", (("a", 2),), (1,), (1, 2)), (("a", (("row", "a", 0),)), "", (), (9,), (0, 1)),
            (("a", (("row", "a", 0),)), "", (("a", 5),), (9,), None), (FREE, "", (("a", 3),), (0, 1), (2, 3)),
            (FREE, "", (("a", 5),), (1, 9), (37, 5)), (FREE, "", (("a", 1),), (1, 9), (1, 1)),
            (FREE, "", (("a", 2), ("b", 2)), (3, 8), (11, 2)), (FREE, "b", (("a", 2), ("b", 2)), (0, 0), (0, 1)),
            (TWO, "", (("a", 4),), (0, 1), (3, 8)),
        ]:
            self.assertEqual(keeping_share(book, calendar, wishes, weights), share, (book, calendar, wishes, weights))

    def test_against_all_cycles(self):
        for book, calendar, wishes, weights in weighted(presents(70, 83)):
            steps, start = keeping_walks(book, calendar, wishes)
            wanted = greatest_mean(steps, start, worth_of(book, weights))
            found = keeping_share(book, calendar, wishes, weights)
            self.assertEqual(found, wanted, (book, calendar, wishes, weights))
            self.assertIs(found is None, not can_keep(book, calendar, wishes))

    def test_no_wishes_and_no_calendar(self):
        for zones, seed in [("a", 84), ("ab", 85)]:
            for at, book in enumerate(mixed_books(zones, 30, seed)):
                weights = WEIGHTS[zones][at % 4]
                self.assertEqual(keeping_share(book, "", (), weights), greatest_share(book, weights))

    def test_no_less_than_the_loop_and_no_more_than_without_wishes(self):
        for book, calendar, wishes, weights in weighted(presents(100, 86)):
            share = keeping_share(book, calendar, wishes, weights)
            if share is not None:
                least = mean_of(keeping_loop(book, calendar, wishes)[1], worth_of(book, weights))
                most = greatest_share(book, weights)
                self.assertLessEqual(least[0] * share[1], share[0] * least[1])
                self.assertLessEqual(share[0] * most[1], most[0] * share[1])

    def test_what_follows_a_calendar_may_have_less(self):
        # A stay that began can not be counted as beginning again, but all pasts can be left by days away.
        for book in [SHORT, TWO] + mixed_books("ab", 5, 87):
            weights = (1, 2)[:len(book[0])]
            for past in all_pasts(book)[::20]:
                self.assertEqual(keeping_share(book, calendar_to(book, past), (), weights), greatest_share(book, weights))


class DeadDayTest(unittest.TestCase):
    def test_example(self):
        self.assertEqual(dead_day(SHORT, "aa", (("a", 2),)), 2)

    def test_written_out(self):
        for book, calendar, wishes, day in [
            (SHORT, "", (("a", 1),), 0), (SHORT, "a", (("a", 1),), 0), (SHORT, "aa", (), None), (SHORT, "", (), None),
            (SHORT, "aa", (("a", 3),), None), (SHORT, "..aa", (("a", 2),), 4), (SHORT, "a..aa", (("a", 2),), 5),
            (SHORT, "a..a", (("a", 2),), None), (("a", (("row", "a", 0),)), "....", (("a", 5),), 0),
            (TWO, "a", (("a", 2),), 0), (TWO, "a", (("a", 3),), None), (TWO, "bb", (("ab", 1),), 0),
            (TWO, "", (("ab", 2),), None), (("a", (("gap", "a", 4),)), "a....a....", (("a", 3),), 2),
            (("a", (("gap", "a", 4),)), "aaaa", (("a", 4),), None), (("a", (("gap", "a", 4),)), "aaa.", (("a", 5),), None),
        ]:
            self.assertEqual(dead_day(book, calendar, wishes), day, (book, calendar, wishes))

    def test_wishes_that_can_be_kept_again_behind_a_later_day(self):
        book = ("a", (("gap", "a", 4),))
        self.assertIs(can_keep(book, "aa.", (("a", 3),)), False)
        self.assertIs(can_keep(book, "aa..", (("a", 3),)), True)
        self.assertEqual(dead_day(book, "aa..", (("a", 3),)), 3)
        self.assertEqual(dead_day(SHORT, "aa..", (("a", 2),)), 2)
        self.assertIs(can_keep(SHORT, "aa..", (("a", 2),)), True)

    def test_against_each_beginning(self):
        days = []
        for book, calendar, wishes in presents(120, 88):
            dead = [many for many in range(len(calendar) + 1) if not can_keep(book, calendar[:many], wishes)]
            wanted = dead[0] if dead else None
            self.assertEqual(dead_day(book, calendar, wishes), wanted, (book, calendar, wishes))
            days.append(wanted)
        self.assertIn(None, days)
        self.assertIn(0, days)
        self.assertGreater(max(day for day in days if day is not None), 2)

    def test_a_calendar_of_60_days(self):
        self.assertEqual(dead_day(SHORT, "." * 58 + "aa", (("a", 2),)), 60)
        self.assertEqual(dead_day(SHORT, "." * 57 + "aa.", (("a", 2),)), 59)
        self.assertIsNone(dead_day(SHORT, "." * 59 + "a", (("a", 2),)))


class LoopOfTheBookTest(unittest.TestCase):
    def test_behind_the_empty_calendar_it_is_a_loop_of_the_book(self):
        for book in [SHORT, TWO] + mixed_books("ab", 20, 89):
            for wishes in [(), (("a", 4),)]:
                found = keeping_loop(book, "", wishes)
                if found is not None:
                    self.assertIs(is_loop(book, found), True)


if __name__ == "__main__":
    unittest.main()
