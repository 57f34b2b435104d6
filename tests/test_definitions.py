"""0.3: new lists, equal answers, arguments left as they were, and no errors of Python's own."""

import copy
import unittest

from staybounds import books, judging
from staybounds.errors import StayError
from tests.plainly import with_kinds
from tests.samples import ANYTHING, SHORT, TWO

LISTS = [
    (books.days_in, (TWO, "ab.a", "ab")),
    (books.days_in, (TWO, "...", "ab")),
    (books.stays, (TWO, "ab.a", "ab")),
    (books.stays, (TWO, "", "a")),
    (judging.next_days, (TWO, "b")),
    (judging.next_days, (SHORT, "aa")),
]

# Each function with the number of its arguments.
FUNCTIONS = [
    (books.is_limit, 1), (books.is_book, 1), (books.is_calendar, 2), (books.days_in, 3), (books.stays, 3),
    (judging.is_allowed, 2), (judging.first_broken, 2), (judging.past_of, 2), (judging.next_days, 2),
]

RIGHT = [SHORT, "a.a", "a"]


def calls():
    """All calls that have one argument of any kind, and those that have only such a one."""
    for function, many in FUNCTIONS:
        for value in ANYTHING:
            yield function, [value] * many
            for at in range(many):
                yield function, RIGHT[:at] + [value] + RIGHT[at + 1:many]


class ListsTest(unittest.TestCase):
    def test_returned_lists_are_new(self):
        for function, arguments in LISTS:
            first = function(*arguments)
            second = function(*arguments)
            self.assertIs(type(first), list)
            self.assertIsNot(first, second)
            self.assertEqual(first, second)

    def test_a_changed_list_changes_no_answer(self):
        for function, arguments in LISTS:
            first = function(*arguments)
            kept = list(first)
            first.append("more")
            self.assertEqual(function(*arguments), kept)
            first.clear()
            self.assertEqual(function(*arguments), kept)


class AnyArgumentsTest(unittest.TestCase):
    def test_no_error_of_pythons_own(self):
        for function, arguments in calls():
            try:
                answer = function(*arguments)
            except StayError as error:
                self.assertIs(type(error).__base__, StayError)
                continue
            if function.__name__.startswith("is_"):
                self.assertIn(answer, (True, False))
                self.assertIs(type(answer), bool)

    def test_functions_with_one_candidate_never_raise(self):
        for value in ANYTHING:
            self.assertIs(type(books.is_limit(value)), bool)
            self.assertIs(type(books.is_book(value)), bool)
            self.assertIs(type(books.is_calendar(SHORT, value)), bool)

    def test_arguments_are_not_modified(self):
        for function, arguments in calls():
            before = copy.deepcopy(arguments)
            try:
                function(*arguments)
            except StayError:
                pass
            self.assertEqual(with_kinds(arguments), with_kinds(before))

    def test_equal_calls_return_equal_results(self):
        for function, arguments in calls():
            self.assertEqual(self.outcome(function, arguments), self.outcome(function, copy.deepcopy(arguments)))

    def outcome(self, function, arguments):
        try:
            return function(*arguments)
        except StayError as error:
            return type(error)

    def test_true_does_not_pass_for_a_number_it_equals(self):
        # The tuples are equal in Python, the answers must be different.
        for number, boolean in [(1, True), (0, False)]:
            for _ in range(2):
                self.assertIs(books.is_limit(("row", "a", number)), True)
                self.assertIs(books.is_limit(("row", "a", boolean)), False)
                self.assertIs(books.is_book(("a", (("row", "a", number),))), True)
                self.assertIs(books.is_book(("a", (("row", "a", boolean),))), False)
