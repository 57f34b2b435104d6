"""4.1 and 4.2, with 0.2 (b), 0.3, 0.7 and 0.8."""

import unittest
from fractions import Fraction

from staybounds.errors import InvalidBook, InvalidLoop, InvalidWeights
from staybounds.shares import best_loop, greatest_share, is_loop, share_of
from tests.forms import is_plain_loop, spoiled
from tests.listing import greatest_closed_walk, greatest_mean, mean_of, walked_pasts, worth_of
from tests.samples import ANYTHING, SHORT, TWO, calendars_up_to, limits_of, long_calendars, mixed_books

FREE = ("ab", ())
WEIGHTS = [(1, 1), (1, 0), (0, 1), (9, 4), (2, 3), (9, 9), (0, 0), (3, 8)]


def weighted(books):
    """Books with two zones, each with one of the weights."""
    return [(book, WEIGHTS[at % len(WEIGHTS)]) for at, book in enumerate(books)]


class LoopTest(unittest.TestCase):
    def check(self, book, right, wrong):
        for loop in right:
            self.assertIs(is_loop(book, loop), True, loop)
        for loop in wrong:
            self.assertIs(is_loop(book, loop), False, loop)

    def test_loops_written_out(self):
        self.check(SHORT, [("", "aa.."), ("", "."), ("a", "."), ("", "a."), ("aa..", "aa.."), (".", "..a")],
                   [("", "a"), ("", "aa."), ("aa", "a..."), ("aaa", "."), ("", "aaa"), ("a", "a.")])

    def test_an_empty_begin_and_an_empty_loop(self):
        self.check(SHORT, [("", "a...")], [("", ""), ("a", ""), ("a...", "")])

    def test_broken_behind_the_second_time(self):
        self.check(SHORT, [("aa.", ".")], [("", "aa.")])
        self.check(("a", (("gap", "a", 2),)), [("", "a.."), ("", "aa..")], [("", "a."), ("", "aa.")])
        self.check(("ab", (("row", "a", 3),)), [("", "aab"), ("", "aaab")], [("", "aabaa"), ("", "abaaa")])

    def test_broken_behind_the_third_time_and_the_sixth(self):
        self.check(("a", (("starts", "a", 2, 5),)), [("a.a.", "."), ("", "a.a..")], [("", "a.")])
        self.check(("a", (("row", "a", 5),)), [("aaaaa", "."), ("", "aaaaa.")], [("", "a"), ("", "aa"), ("", "aaaaa")])
        self.check(("a", (("most", "a", 5, 6),)), [("", "aaaaa.")], [("", "a"), ("", "aa"), ("", "aaa"), ("", "aaaa")])

    def test_broken_across_the_border(self):
        self.check(("a", (("row", "a", 1),)), [("a", ".a"), ("", "a.")], [("a", "a."), (".a", "a..")])
        self.check(("a", (("gap", "a", 5),)), [("a.....", "a.....")], [("a....", "a....."), ("a", "....a.....")])

    def test_broken_in_begin(self):
        self.check(SHORT, [("aa", ".")], [("aaa", "."), ("aa.a......", ".")])

    def test_a_loop_of_one_day(self):
        self.check(FREE, [("", "a"), ("", "b"), ("", "."), ("ab.", "b")], [("", "c"), ("", "?")])
        self.check(("ab", (("row", "a", 5),)), [("aaaaa", "b"), ("", "b")], [("", "a")])

    def test_greatest_lengths(self):
        self.check(SHORT, [("." * 300, "." * 300), ("aa.." * 75, "aa.." * 75), ("", "." * 300), ("." * 300, ".")],
                   [("." * 301, "."), ("", "." * 301), ("." * 301, "." * 301), ("", "aa.." * 76)])

    def test_wrong_forms(self):
        self.check(SHORT, [("", "a...")],
                   ["a...", "", ["", "a..."], ("", "a...", ""), ("a...",), (), ("", ["a", "."]), ("", ("a", ".")),
                    ([], "a..."), (None, "a..."), ("", None), ("", 5), (("", "a..."),), ("", "b..."), ("b", "a..."),
                    ("", "A..."), ("", "a...\n"), ("", "?"), ("", "p")])
        self.check(SHORT, [], ANYTHING)

    def test_against_saying_it_plainly(self):
        parts = list(calendars_up_to("a", 4))
        for book in [SHORT] + [("a", (limit,)) for limit in limits_of("a")[::9]] + mixed_books("a", 3, 31):
            for begin in parts[::3]:
                for loop in parts:
                    wanted = is_plain_loop(book, (begin, loop))
                    self.assertIs(is_loop(book, (begin, loop)), wanted, (book, begin, loop))

    def test_long_ones_against_saying_it_plainly(self):
        calendars = long_calendars("ab", 60, 32)
        for book in [TWO] + mixed_books("ab", 10, 33):
            for begin, loop in zip(calendars, calendars[1:]):
                loop = loop[:7]
                self.assertIs(is_loop(book, (begin, loop)), is_plain_loop(book, (begin, loop)))


class ShareOfTest(unittest.TestCase):
    def test_example(self):
        self.assertEqual(share_of(SHORT, (1,), ("", "aa..")), (1, 2))

    def test_lowest_terms(self):
        self.assertEqual(share_of(SHORT, (1,), ("", "a...")), (1, 4))
        self.assertEqual(share_of(SHORT, (1,), ("", "a..a.")), (2, 5))
        self.assertEqual(share_of(SHORT, (4,), ("", "a...")), (1, 1))
        self.assertEqual(share_of(SHORT, (6,), ("", "a...")), (3, 2))
        self.assertEqual(share_of(SHORT, (9,), ("", "aa..")), (9, 2))
        self.assertEqual(share_of(FREE, (9, 9), ("", "ab")), (9, 1))

    def test_nothing(self):
        self.assertEqual(share_of(SHORT, (1,), ("aa", "." * 7)), (0, 1))
        self.assertEqual(share_of(SHORT, (0,), ("", "aa..")), (0, 1))
        self.assertEqual(share_of(FREE, (9, 0), ("a", "bbb")), (0, 1))

    def test_begin_does_not_count(self):
        self.assertEqual(share_of(SHORT, (1,), ("aa..aa..", "a....")), (1, 5))

    def test_two_zones(self):
        self.assertEqual(share_of(TWO, (2, 3), ("", "ab..")), (5, 4))
        self.assertEqual(share_of(TWO, (9, 1), ("", "bb.")), (2, 3))
        self.assertEqual(share_of(TWO, (0, 9), ("", "ab..")), (9, 4))
        self.assertEqual(share_of(FREE, (1, 9), ("", "aab")), (11, 3))

    def test_loops_of_all_forms_against_a_mean(self):
        for book, weights in weighted([FREE, TWO] + mixed_books("ab", 14, 34)):
            for loop in calendars_up_to("ab", 4):
                if loop != "" and is_loop(book, ("", loop)):
                    wanted = mean_of(loop, worth_of(book, weights))
                    self.assertEqual(share_of(book, weights, ("", loop)), wanted)


class GreatestShareTest(unittest.TestCase):
    def test_example(self):
        self.assertEqual(greatest_share(SHORT, (1,)), (1, 2))

    def test_books_written_out(self):
        for book, weights, share in [
            (("a", ()), (1,), (1, 1)), (("a", ()), (9,), (9, 1)), (SHORT, (9,), (9, 2)), (SHORT, (0,), (0, 1)),
            (("a", (("most", "a", 0, 3),)), (9,), (0, 1)), (("a", (("row", "a", 0),)), (9,), (0, 1)),
            (("a", (("starts", "a", 0, 5),)), (9,), (0, 1)), (("a", (("row", "a", 2), ("gap", "a", 3))), (1,), (2, 5)),
            (("a", (("row", "a", 5), ("gap", "a", 5))), (1,), (1, 2)), (("a", (("most", "a", 5, 6),)), (1,), (5, 6)),
            (("a", (("most", "a", 3, 6), ("most", "a", 2, 5))), (1,), (2, 5)),
            (FREE, (3, 8), (8, 1)), (FREE, (8, 3), (8, 1)), (TWO, (1, 1), (2, 3)), (TWO, (0, 1), (2, 3)),
            (TWO, (9, 1), (9, 2)), (("ab", (("row", "b", 1),)), (1, 9), (5, 1)),
            (("ab", (("most", "a", 0, 1), ("gap", "b", 5), ("row", "b", 1))), (9, 1), (1, 6)),
        ]:
            self.assertEqual(greatest_share(book, weights), share, (book, weights))

    def check(self, book, weights, wanted):
        """The share, and that the loop has it."""
        self.assertEqual(greatest_share(book, weights), wanted, (book, weights))
        loop = best_loop(book, weights)
        self.assertIs(type(loop), tuple)
        self.assertLessEqual(max(len(part) for part in loop), 300)
        self.assertIs(is_loop(book, loop), True, (book, loop))
        self.assertTrue(is_plain_loop(book, loop), (book, loop))
        self.assertEqual(share_of(book, weights, loop), wanted, (book, weights, loop))
        self.assertEqual(mean_of(loop[1], worth_of(book, weights)), wanted)

    def test_against_all_walks_that_come_back(self):
        for at, book in enumerate([("a", (limit,)) for limit in limits_of("a")] + mixed_books("a", 40, 35)):
            weights = ((1,), (9,), (0,), (4,))[at % 4]
            steps = walked_pasts(book)
            self.check(book, weights, greatest_closed_walk(steps, worth_of(book, weights)))

    def test_two_zones_against_all_cycles(self):
        books = [TWO, FREE] + [("ab", (limit,)) for limit in limits_of("ab")[::14]] + mixed_books("ab", 30, 36)
        for book, weights in weighted(books):
            self.check(book, weights, greatest_mean(walked_pasts(book), ".....", worth_of(book, weights)))

    def test_no_short_loop_has_more(self):
        loops = [("", loop) for loop in calendars_up_to("ab", 5) if loop != ""]
        for book, weights in weighted([TWO] + mixed_books("ab", 7, 37)):
            greatest = Fraction(*greatest_share(book, weights))
            for loop in loops:
                if is_loop(book, loop):
                    self.assertLessEqual(Fraction(*share_of(book, weights, loop)), greatest)

    def test_fewer_limits_and_greater_weights_give_no_less(self):
        for book, weights in weighted(mixed_books("ab", 40, 38)):
            share = Fraction(*greatest_share(book, weights))
            fewer = ("ab", book[1][1:])
            self.assertGreaterEqual(Fraction(*greatest_share(fewer, weights)), share)
            greater = (min(weights[0] + 2, 9), min(weights[1] + 1, 9))
            self.assertGreaterEqual(Fraction(*greatest_share(book, greater)), share)


class WrongArgumentsTest(unittest.TestCase):
    def test_invalid_weights(self):
        for wrong in [(), (1, 1), [1], 1, "1", None, (True,), (False,), (-1,), (10,), ("1",), ((1,),), (10 ** 30,)]:
            for call in [lambda: greatest_share(SHORT, wrong), lambda: best_loop(SHORT, wrong),
                         lambda: share_of(SHORT, wrong, ("", ".")), lambda: share_of(SHORT, wrong, None)]:
                with self.assertRaises(InvalidWeights, msg=wrong):
                    call()
        for wrong in [(1,), (1, 1, 1), (1, True), [1, 1], (1, 10), (-1, 1)]:
            with self.assertRaises(InvalidWeights, msg=wrong):
                greatest_share(TWO, wrong)

    def test_invalid_loop(self):
        for wrong in [("", ""), ("", "aaa"), ["", "."], ".", ("", "b"), ("", ".", "."), None, (), ("." * 301, ".")]:
            with self.assertRaises(InvalidLoop, msg=wrong):
                share_of(SHORT, (1,), wrong)
        for wrong in spoiled(("a", "..")):
            if not is_plain_loop(SHORT, wrong):
                with self.assertRaises(InvalidLoop, msg=wrong):
                    share_of(SHORT, (1,), wrong)

    def test_invalid_book_comes_first(self):
        for call in [lambda: is_loop(None, None), lambda: is_loop(("a", []), ("", ".")),
                     lambda: share_of(["a", ()], (True,), ("", "")), lambda: greatest_share((), ()),
                     lambda: best_loop(("b", ()), (1,))]:
            with self.assertRaises(InvalidBook):
                call()


if __name__ == "__main__":
    unittest.main()
