"""7.1 and 7.2, with 0.2 (d) and 0.4 to 0.7."""

import unittest

from staybounds.errors import Broken, InvalidBook, InvalidCalendar, InvalidDays, InvalidWeights, InvalidWishes
from staybounds.judging import is_allowed
from staybounds.wishes import (are_wishes, can_keep, days_kept, dead_day, keeping_loop, keeping_share, keeps,
                               longest_kept)
from tests.keeping import kept_level, kept_up_to, plain_keeps, presents
from tests.samples import ANYTHING, SHORT, TWO, calendars_up_to

FREE = ("ab", ())
LONG = ("ab", (("most", "b", 1, 6), ("most", "a", 1, 5), ("most", "ab", 4, 3)))


class AreWishesTest(unittest.TestCase):
    def test_wishes(self):
        for right in [(), (("a", 1),), (("a", 5), ("a", 5)), (("a", 1), ("a", 2), ("a", 3)), (("a", 4),) * 3]:
            self.assertIs(are_wishes(SHORT, right), True, right)
            self.assertIs(are_wishes(TWO, right), True, right)
        self.assertIs(are_wishes(TWO, (("ab", 1), ("b", 5), ("a", 3))), True)

    def test_wrong_ones(self):
        for wrong in [(("a", 1),) * 4, (("a", 0),), (("a", 6),), (("a", -1),), (("a", True),), (("a", False),),
                      (("a", "1"),), (("a", None),), (("b", 1),), (("ab", 1),), (("", 1),), ((".", 1),), (("aa", 1),),
                      [("a", 1)], (["a", 1],), ("a", 1), (("a",),), (("a", 1, 1),), ((1, "a"),), (("a", (1,)),),
                      ((("a",), 1),), ((["a"], 1),), None, "a", 1, True, [], ((),), (("a", 1), None),
                      (("a", 10 ** 30),), "", (("a", 1), ("a", 1), ("a", 6))]:
            self.assertIs(are_wishes(SHORT, wrong), False, wrong)
        for wrong in [(("ba", 1),), (("c", 1),), (("ab", 0),), (("ab", 6),), (("b", 1),) * 4]:
            self.assertIs(are_wishes(TWO, wrong), False, wrong)

    def test_any_kind(self):
        for value in ANYTHING:
            self.assertIs(are_wishes(SHORT, value), value == () and type(value) is tuple)
            self.assertIs(are_wishes(SHORT, (value,)), False)
            self.assertIs(are_wishes(SHORT, ((value, 1),)), value == "a")
            number = type(value) is int and 1 <= value <= 5
            self.assertIs(are_wishes(SHORT, (("a", value),)), number)

    def test_invalid_book(self):
        for wrong in [None, ["a", ()], ("b", ())]:
            with self.assertRaises(InvalidBook):
                are_wishes(wrong, ())


class KeepsTest(unittest.TestCase):
    def test_example(self):
        self.assertIs(keeps(SHORT, "", "a..a", (("a", 3),)), True)

    def test_no_days_and_no_wishes(self):
        self.assertIs(keeps(SHORT, "aa", "", (("a", 1),)), True)
        self.assertIs(keeps(SHORT, "aa", "", ()), True)
        self.assertIs(keeps(SHORT, "aa", "....", ()), True)
        self.assertIs(keeps(SHORT, "aa", "a", ()), False)

    def test_a_period_that_is_complete_just_at_the_end(self):
        for period in range(1, 6):
            for days in range(8):
                self.assertIs(keeps(SHORT, "", "." * days, (("a", period),)), days < period)
                self.assertIs(keeps(SHORT, "", "a" + "." * days, (("a", period),)), days < period)
                self.assertIs(keeps(SHORT, "", "a" + "." * days + "a", (("a", period),)), days < period)

    def test_only_days_after_the_present_count(self):
        self.assertIs(keeps(SHORT, "a", ".", (("a", 2),)), True)
        self.assertIs(keeps(SHORT, "a", "..", (("a", 2),)), False)
        self.assertIs(keeps(SHORT, "a...", ".a", (("a", 2),)), True)
        self.assertIs(keeps(SHORT, ".....", "....a....a", (("a", 5),)), True)
        self.assertIs(keeps(SHORT, "aa", ".....", (("a", 5),)), False)
        self.assertIs(keeps(SHORT, "....", ".", (("a", 1),)), False)

    def test_limits_look_at_the_calendar(self):
        self.assertIs(keeps(SHORT, "aa", ".a", ()), False)
        self.assertIs(keeps(SHORT, "aa", "..a", ()), True)
        self.assertIs(keeps(TWO, "a", ".a", ()), False)
        self.assertIs(keeps(TWO, "a", "..a", (("ab", 3),)), True)

    def test_several_wishes_and_zones(self):
        self.assertIs(keeps(FREE, "", "ab.ab.", (("a", 3), ("b", 3))), True)
        self.assertIs(keeps(FREE, "", "ab.ab.", (("ab", 1),)), False)
        self.assertIs(keeps(FREE, "", "ab.ab.", (("ab", 2),)), True)
        self.assertIs(keeps(FREE, "", "ab.a", (("a", 3), ("b", 3))), True)
        self.assertIs(keeps(FREE, "", "ab.aa", (("a", 3), ("b", 3))), False)
        self.assertIs(keeps(FREE, "", "ba.bb", (("a", 3), ("b", 3))), False)
        self.assertIs(keeps(FREE, "", "abbbb", (("a", 5), ("b", 2), ("ab", 1))), True)
        self.assertIs(keeps(FREE, "", "abbbbb", (("a", 5), ("b", 2), ("ab", 1))), False)

    def test_together_more_than_60_days(self):
        for days, wanted in [("a..a" * 15, False), ("..aa" * 15, True), ("." * 57 + "aaa", False)]:
            self.assertIs(keeps(SHORT, "..aa" * 15, days, ()), wanted)
        self.assertIs(keeps(SHORT, "..aa" * 15, "..aa" * 15, (("a", 3),)), True)
        self.assertIs(keeps(SHORT, "..aa" * 15, "..aa" * 15, (("a", 2),)), False)

    def test_against_saying_it_plainly(self):
        strings = {"a": list(calendars_up_to("a", 5)), "ab": list(calendars_up_to("ab", 3))}
        for book, calendar, wishes in presents(30, 71):
            for days in strings[book[0]]:
                wanted = plain_keeps(book, calendar, days, wishes)
                self.assertIs(keeps(book, calendar, days, wishes), wanted, (book, calendar, days, wishes))


class DaysKeptTest(unittest.TestCase):
    def test_example(self):
        self.assertEqual(days_kept(SHORT, "aa", (("a", 1),)), 0)

    def test_written_out(self):
        for book, calendar, wishes, days in [
            (SHORT, "", (("a", 1),), "aa"), (SHORT, "a", (("a", 1),), "a"), (SHORT, "aa", (("a", 1),), ""),
            (SHORT, "aa", (("a", 2),), "."), (SHORT, "aa", (("a", 3),), None), (SHORT, "", (), None),
            (SHORT, "", (("a", 2),), None), (("a", (("row", "a", 0),)), "", (("a", 3),), ".."),
            (("a", (("row", "a", 0),)), "", (), None), (("a", (("most", "a", 1, 6),)), "", (("a", 5),), "....a...."),
            (("a", (("most", "a", 1, 6),)), "a", (("a", 5),), "...."), (TWO, "", (("ab", 1),), "aa"),
            (TWO, "", (("ab", 2),), None), (TWO, "", (("a", 3),), None), (TWO, "", (("a", 2),), ".aa."),
            (FREE, "", (("a", 2), ("b", 2)), None), (FREE, "", (("a", 1), ("b", 1)), ""),
            (FREE, "", (("a", 1), ("b", 2)), "a"), (FREE, "", (("a", 2), ("b", 1)), "b"),
        ]:
            wanted = None if days is None else len(days)
            self.assertEqual(days_kept(book, calendar, wishes), wanted, (book, calendar, wishes))
            self.assertEqual(longest_kept(book, calendar, wishes), days, (book, calendar, wishes))
            self.assertIs(can_keep(book, calendar, wishes), days is None, (book, calendar, wishes))

    def check_greatest(self, book, calendar, wishes):
        """Against all strings of days, shorter ones first."""
        many = days_kept(book, calendar, wishes)
        longest = longest_kept(book, calendar, wishes)
        self.assertIs(can_keep(book, calendar, wishes), many is None)
        if many is None:
            self.assertIsNone(longest)
            self.assertTrue(kept_level(book, calendar, wishes, 6))
            begin, loop = keeping_loop(book, calendar, wishes)
            self.assertTrue(plain_keeps(book, calendar, begin + loop * 9, wishes))
        else:
            self.assertIs(type(many), int)
            self.assertIsNone(keeping_loop(book, calendar, wishes))
            self.assertEqual(longest, kept_level(book, calendar, wishes, many)[0], (book, calendar, wishes))
            self.assertEqual(kept_level(book, calendar, wishes, many + 1), [], (book, calendar, wishes))

    def test_against_all_strings_of_days(self):
        for book, calendar, wishes in presents(150, 72):
            self.check_greatest(book, calendar, wishes)

    def test_many_days(self):
        for book, wishes, many in [
            (LONG, (("a", 5), ("ab", 4)), 27),
            (("ab", (("most", "a", 1, 5), ("gap", "b", 5), ("row", "a", 4))), (("ab", 5), ("ab", 4), ("a", 5)), 27),
            (("ab", (("most", "b", 4, 6), ("gap", "a", 5), ("gap", "ab", 5))), (("b", 5), ("b", 5)), 20),
            (("ab", (("row", "a", 5), ("row", "b", 4), ("gap", "a", 5))), (("ab", 1),), 13),
        ]:
            self.assertEqual(days_kept(book, "", wishes), many)
            self.assertEqual(longest_kept(book, "", wishes), kept_up_to(book, "", wishes))
            self.assertEqual(len(longest_kept(book, "", wishes)), many)

    def test_kept_for_ever_exactly_if_for_any_number_of_days(self):
        for book, calendar, wishes in presents(60, 73):
            lasting = can_keep(book, calendar, wishes)
            if lasting and len(kept_level(book, calendar, wishes, 6)) < 40:
                self.assertTrue(kept_level(book, calendar, wishes, 12))

    def test_behind_a_calendar_of_60_days(self):
        self.assertEqual(days_kept(SHORT, "..aa" * 15, (("a", 2),)), 1)
        self.assertEqual(longest_kept(SHORT, "..aa" * 15, (("a", 2),)), ".")
        self.assertIs(can_keep(SHORT, "..aa" * 15, (("a", 3),)), True)

    def test_fewer_wishes_are_kept_for_longer(self):
        for book, calendar, wishes in presents(60, 74):
            many = days_kept(book, calendar, wishes)
            fewer = days_kept(book, calendar, wishes[1:])
            if many is None:
                self.assertIsNone(fewer)
            elif fewer is not None:
                self.assertGreaterEqual(fewer, many)


class WrongArgumentsTest(unittest.TestCase):
    FUNCTIONS = [days_kept, longest_kept, can_keep, keeping_loop, dead_day]

    def test_order_of_errors_of_keeps(self):
        for arguments, error in [
            ((None, 1, 1, 1), InvalidBook), ((SHORT, "b", "c", 1), InvalidCalendar), ((SHORT, "aaa", "c", 1), Broken),
            ((SHORT, "aa", "c", 1), InvalidDays), ((SHORT, "aa", "aaa", 1), InvalidWishes),
            ((SHORT, "a" * 61, None, None), InvalidCalendar), ((SHORT, "", "." * 61, ()), InvalidDays),
            ((SHORT, "", [], ()), InvalidDays), ((SHORT, "", ("a",), ()), InvalidDays),
            ((SHORT, "", "b", ()), InvalidDays), ((SHORT, "", "", (("b", 1),)), InvalidWishes),
            ((SHORT, "", "", [("a", 1)]), InvalidWishes), ((SHORT, "", "", (("a", True),)), InvalidWishes),
        ]:
            with self.assertRaises(error, msg=arguments):
                keeps(*arguments)
        self.assertIs(keeps(SHORT, "", "aaa", ()), False)
        self.assertIs(keeps(SHORT, "", "." * 60, ()), True)

    def test_order_of_errors_of_the_others(self):
        for function in self.FUNCTIONS:
            for arguments, error in [
                ((None, 1, 1), InvalidBook), ((SHORT, "b", 1), InvalidCalendar), ((SHORT, "aaa", 1), Broken),
                ((SHORT, "aa", 1), InvalidWishes), ((SHORT, "aa", (("ab", 1),)), InvalidWishes),
                ((SHORT, "aa", (("a", 0),)), InvalidWishes), ((SHORT, ".." * 31, ()), InvalidCalendar),
                ((SHORT, "aa", ("a", 1)), InvalidWishes), ((SHORT, "aa", (("a", 1),) * 4), InvalidWishes),
                ((TWO, "a.a", ()), Broken), ((TWO, ["a"], ()), InvalidCalendar),
                ((("a", []), "", ()), InvalidBook),
            ]:
                with self.assertRaises(error, msg=arguments):
                    function(*arguments)

    def test_order_of_errors_of_keeping_share(self):
        for arguments, error in [
            ((None, 1, 1, 1), InvalidBook), ((SHORT, "b", 1, 1), InvalidCalendar), ((SHORT, "aaa", 1, 1), Broken),
            ((SHORT, "aa", 1, 1), InvalidWishes), ((SHORT, "aa", (("a", 1),), 1), InvalidWeights),
            ((SHORT, "aa", (("a", 1),), (1, 1)), InvalidWeights), ((SHORT, "", (), (True,)), InvalidWeights),
            ((SHORT, "", (), [1]), InvalidWeights), ((TWO, "", (), (1,)), InvalidWeights),
        ]:
            with self.assertRaises(error, msg=arguments):
                keeping_share(*arguments)

    def test_an_allowed_calendar_is_asked_for_as_a_whole(self):
        self.assertFalse(is_allowed(SHORT, "aaa..."))
        for function in self.FUNCTIONS:
            with self.assertRaises(Broken):
                function(SHORT, "aaa...", ())


if __name__ == "__main__":
    unittest.main()
