"""0.3: new lists, equal answers, arguments left as they were, the order of errors, none of Python's own."""

import copy
import unittest
from itertools import product

from staybounds import books, shares, wishes
from staybounds.errors import StayError
from tests.arguments import LISTS, SPECS, wanted_error
from tests.forms import spoiled
from tests.plainly import with_kinds
from tests.samples import ANYTHING, SHORT, TWO

# Right and wrong values for any argument, to have several wrong ones at once.
FEW = [SHORT, TWO, ("a", ["row"]), "a.a", "aaa", "bb", "p?", "?" * 9, (1,), (1, 2), [1], (("a", 3),), True, 0, 7, None,
       ((SHORT, "", "a"),), (0, 1, 1)]


def calls():
    """All calls with one argument that is changed, or of any kind, or with several of a few."""
    for function, right, checks in SPECS:
        yield function, list(right), checks
        for at in range(len(right)):
            for value in ANYTHING + list(spoiled(right[at])):
                yield function, [*right[:at], value, *right[at + 1:]], checks
        for value in ANYTHING:
            yield function, [value] * len(right), checks
        for values in product(FEW, repeat=min(len(right), 3)):
            yield function, [*values, *right[3:]], checks


def outcome(function, arguments):
    try:
        return function(*arguments), None
    except StayError as error:
        return None, type(error)


class AnyArgumentsTest(unittest.TestCase):
    def test_errors_in_their_order_and_none_of_pythons_own(self):
        for function, arguments, checks in calls():
            before = copy.deepcopy(arguments)
            wanted = wanted_error(checks, arguments)
            try:
                answer, error = outcome(function, arguments)
                again = outcome(function, before)
            except Exception as wrong:
                self.fail("%s%r: %r" % (function.__name__, before, wrong))
            if error is not wanted and not (wanted is None and error.__name__ == "NoneAllowed"):
                self.fail("%s%r: wanted %r, found %r" % (function.__name__, before, wanted, error))
            if (answer, error) != again or with_kinds(arguments) != with_kinds(before):
                self.fail("%s%r: another answer, or other arguments" % (function.__name__, before))
            if error is None and function.__name__.startswith(("is_", "are_")):
                self.assertIs(type(answer), bool)

    def test_true_does_not_pass_for_a_number_it_equals(self):
        # The tuples are equal in Python, the answers must be different.
        one_day = ("a", (("row", "a", 0),))
        for number, boolean in [(1, True), (0, False)]:
            for _ in range(2):
                self.assertIs(books.is_limit(("row", "a", number)), True)
                self.assertIs(books.is_limit(("row", "a", boolean)), False)
                self.assertIs(books.is_book(("a", (("row", "a", number),))), True)
                self.assertIs(books.is_book(("a", (("row", "a", boolean),))), False)
                self.assertIs(shares.is_ceiling(one_day, (1,), (1, 1), [(".....", number)]), True)
                self.assertIs(shares.is_ceiling(one_day, (1,), (1, 1), [(".....", boolean)]), False)
        self.assertIs(wishes.are_wishes(SHORT, (("a", 1),)), True)
        self.assertIs(wishes.are_wishes(SHORT, (("a", True),)), False)


class ListsTest(unittest.TestCase):
    def test_each_function_that_returns_lists_is_listed(self):
        listed = [function for function, arguments in LISTS]
        for function, right, checks in SPECS:
            self.assertEqual(type(function(*right)) is list, function in listed, function.__name__)

    def test_returned_lists_are_new(self):
        for function, arguments in LISTS:
            first = function(*arguments)
            second = function(*arguments)
            self.assertIs(type(first), list)
            self.assertIsNot(first, second)
            self.assertEqual(first, second)

    def test_a_changed_list_changes_no_answer(self):
        for function, arguments in LISTS:
            first = function(*arguments)
            kept = list(first)
            first.append("more")
            self.assertEqual(function(*arguments), kept)
            first.clear()
            self.assertEqual(function(*arguments), kept)

    def test_a_list_that_was_passed_is_not_kept(self):
        numbers = shares.ceiling(SHORT, (1,))
        self.assertIs(shares.is_ceiling(SHORT, (1,), (1, 2), numbers), True)
        kept = list(numbers)
        numbers.pop()
        self.assertIs(shares.is_ceiling(SHORT, (1,), (1, 2), numbers), False)
        self.assertIs(shares.is_ceiling(SHORT, (1,), (1, 2), kept), True)
