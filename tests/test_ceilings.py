"""4.3, with 0.3 and 0.8."""

import unittest
from fractions import Fraction

from staybounds.errors import InvalidBook, InvalidFraction, InvalidWeights
from staybounds.pasts import all_pasts
from staybounds.shares import ceiling, greatest_share, is_ceiling
from tests.forms import is_plain_ceiling, spoiled
from tests.listing import walked_pasts
from tests.samples import ANYTHING, SHORT, TWO, limits_of, mixed_books

MOST = 10000000
NONE_IN = ("a", (("row", "a", 0),))


def many_books():
    """Books of one and two zones with weights."""
    books = [("a", (limit,)) for limit in limits_of("a")[::2]] + mixed_books("a", 20, 41) + [SHORT, ("a", ())]
    for at, book in enumerate(books):
        yield book, ((1,), (9,), (0,), (7,))[at % 4]
    books = [("ab", (limit,)) for limit in limits_of("ab")[::12]] + mixed_books("ab", 20, 42) + [TWO, ("ab", ())]
    for at, book in enumerate(books):
        yield book, ((1, 1), (9, 2), (0, 3), (0, 0), (5, 9))[at % 5]


def less_than(share):
    """Fractions that are a little and much smaller than a share above 0."""
    share = Fraction(*share)
    for smaller in (share * Fraction(9, 10), share - Fraction(1, 100), share - Fraction(1, 7), Fraction(0)):
        if 0 <= smaller < share and smaller.numerator <= 1000 and smaller.denominator <= 1000:
            yield (smaller.numerator, smaller.denominator)


class CeilingTest(unittest.TestCase):
    def test_form(self):
        for book, weights in many_books():
            found = ceiling(book, weights)
            self.assertIs(type(found), list)
            self.assertEqual([past for past, number in found], all_pasts(book))
            for pair in found:
                self.assertIs(type(pair), tuple)
                self.assertIs(type(pair[1]), int)
                self.assertTrue(0 <= pair[1] <= MOST)

    def test_it_is_one_for_the_greatest_share_and_for_no_smaller_one(self):
        for book, weights in many_books():
            share = greatest_share(book, weights)
            found = ceiling(book, weights)
            self.assertTrue(is_plain_ceiling(book, share, weights, found, walked_pasts(book)))
            self.assertIs(is_ceiling(book, weights, share, found), True, (book, weights))
            for smaller in less_than(share):
                self.assertIs(is_ceiling(book, weights, smaller, found), False, (book, weights, smaller))

    def test_numbers_changed_by_a_little(self):
        for book, weights in [(SHORT, (1,)), (SHORT, (9,)), (TWO, (1, 1)), (TWO, (9, 2))] + list(many_books())[::9]:
            share = greatest_share(book, weights)
            found = ceiling(book, weights)
            steps = walked_pasts(book)
            for at, (past, number) in enumerate(found):
                for other in (number - 1, number + 1):
                    changed = found[:at] + [(past, other)] + found[at + 1:]
                    wanted = is_plain_ceiling(book, share, weights, changed, steps)
                    self.assertIs(is_ceiling(book, weights, share, changed), wanted, (book, changed))

    def test_a_number_that_is_one_too_small(self):
        found = [(".....", 0)]
        self.assertIs(is_ceiling(NONE_IN, (1,), (0, 1), found), True)
        once = ("a", (("most", "a", 1, 5),))
        # One day of five, and the numbers that are left of the way to the next one.
        least = [(".....", 4), ("....a", 0), ("...a.", 1), ("..a..", 2), (".a...", 3), ("a....", 4)]
        self.assertIs(is_ceiling(once, (1,), (1, 5), sorted(least)), True)
        for at in range(1, 6):
            wrong = sorted(least[:at] + [(least[at][0], least[at][1] - 1)] + least[at + 1:])
            self.assertIs(is_ceiling(once, (1,), (1, 5), wrong), False, wrong)
        self.assertIs(is_ceiling(once, (1,), (1, 6), sorted(least)), False)
        self.assertIs(is_ceiling(once, (1,), (1, 4), sorted(least)), True)

    def test_a_number_may_be_as_great_as_the_step_allows_and_no_greater(self):
        free = ("a", (("most", "a", 1, 5), ("most", "a", 1, 6)))
        found = ceiling(free, (6,))
        steps = walked_pasts(free)
        for past, number in found:
            for other in range(number - 7, number + 8):
                changed = [(one, other if one == past else kept) for one, kept in found]
                wanted = is_plain_ceiling(free, (1, 1), (6,), changed, steps)
                self.assertIs(is_ceiling(free, (6,), (1, 1), changed), wanted)

    def test_a_past_that_is_left_out(self):
        for book, weights in [(SHORT, (1,)), (TWO, (1, 2)), (("a", ()), (0,))]:
            share = greatest_share(book, weights)
            found = ceiling(book, weights)
            for at in range(len(found)):
                self.assertIs(is_ceiling(book, weights, share, found[:at] + found[at + 1:]), False)

    def test_a_past_that_no_allowed_calendar_has_may_be_there(self):
        found = sorted(ceiling(SHORT, (1,)) + [("aaaaa", 0)])
        self.assertIs(is_ceiling(SHORT, (1,), (1, 2), found), True)

    def test_the_past_of_all_days_away_must_be_there(self):
        self.assertIs(is_ceiling(SHORT, (1,), (1, 2), []), False)
        self.assertIs(is_ceiling(SHORT, (1,), (1, 2), [("aaaaa", 0)]), False)
        self.assertIs(is_ceiling(NONE_IN, (1,), (0, 1), [("aaaaa", 0)]), False)

    def test_a_past_has_five_days(self):
        for past in ["", ".", "....", "......"]:
            wrong = sorted([(".....", 0), (past, 0)])
            self.assertIs(is_ceiling(NONE_IN, (1,), (0, 1), wrong), False)

    def test_bounds_of_the_numbers(self):
        for number, wanted in [(0, True), (1, True), (MOST, True), (MOST + 1, False), (-1, False), (True, False),
                               (False, False), (None, False), ("0", False), ([0], False), (10 ** 6000, False)]:
            self.assertIs(is_ceiling(NONE_IN, (1,), (0, 1), [(".....", number)]), wanted)

    def test_order_and_different_pasts(self):
        found = ceiling(SHORT, (1,))
        for wrong in [found[::-1], found[1:] + found[:1], found + found[-1:], found[:1] + found,
                      found[:1] + [(found[0][0], found[0][1] + 1)] + found[1:],
                      found[:2] + [(found[1][0], MOST)] + found[2:], [found[1], found[0]] + found[2:]]:
            self.assertIs(is_ceiling(SHORT, (1,), (1, 2), wrong), False)

    def test_wrong_forms(self):
        found = ceiling(SHORT, (1,))
        for wrong in [tuple(found), [list(pair) for pair in found], dict(found), [found], (found,), found + [None],
                      [(past,) for past, number in found], [(past, number, 0) for past, number in found],
                      [(number, past) for past, number in found], [past for past, number in found],
                      [(tuple(past), number) for past, number in found], found[:-1] + [("aaaab", 0)],
                      found + [("b....", 0)], found + [("z", 0)], [("....", 0)] + found, [("", 0)] + found,
                      found + [("aaaaaa", 0)]]:
            self.assertIs(is_ceiling(SHORT, (1,), (1, 2), wrong), False, wrong)
        for wrong in ANYTHING:
            self.assertIs(is_ceiling(SHORT, (1,), (1, 2), wrong), False, wrong)
        short = [(".....", 0)]
        for wrong in spoiled(short):
            wanted = type(wrong) is list and len(wrong) == 1 and type(wrong[0]) is tuple and len(wrong[0]) == 2
            wanted = wanted and wrong[0][0] == "....." and type(wrong[0][1]) is int and 0 <= wrong[0][1] <= MOST
            self.assertIs(is_ceiling(NONE_IN, (1,), (0, 1), wrong), wanted, wrong)


class WrongArgumentsTest(unittest.TestCase):
    def test_example(self):
        self.assertIs(is_ceiling(SHORT, (1,), (1, 2), []), False)

    def test_fractions(self):
        found = [(".....", 0)]
        for right in [(0, 1), (1, 2), (1000, 1), (1, 1000), (1000, 999), (999, 1000), (1, 1)]:
            self.assertIs(is_ceiling(NONE_IN, (1,), right, found), True, right)
        for wrong in [(2, 4), (1, 0), (1001, 1), (1, 1001), (0, 2), (-1, 2), (1, -2), [1, 2], (1, 2, 3), (1,), (),
                      (0, 0), (1000, 1000), (True, 2), (1, True), (False, 1), ("1", "2"), "12", None, ((1, 2),),
                      (10 ** 6000, 1), (1, 10 ** 6000)]:
            with self.assertRaises(InvalidFraction, msg=wrong):
                is_ceiling(NONE_IN, (1,), wrong, found)
            with self.assertRaises(InvalidFraction, msg=wrong):
                is_ceiling(NONE_IN, (1,), wrong, None)

    def test_order_of_errors(self):
        with self.assertRaises(InvalidBook):
            is_ceiling(None, (True,), (2, 4), [])
        with self.assertRaises(InvalidWeights):
            is_ceiling(SHORT, (1, 1), (2, 4), [])
        with self.assertRaises(InvalidBook):
            ceiling(("a", []), ())
        for wrong in [(), (1, 1), [1], (True,), (10,), (-1,), 1, None]:
            with self.assertRaises(InvalidWeights):
                ceiling(SHORT, wrong)
            with self.assertRaises(InvalidWeights):
                is_ceiling(SHORT, wrong, (1, 2), [])


if __name__ == "__main__":
    unittest.main()
