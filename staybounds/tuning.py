"""How far limits can be changed without a difference, and what a book comes to."""

from staybounds.alike import are_alike
from staybounds.books import BOUNDS, check_book, check_number, check_zones, is_between
from staybounds.errors import InvalidNumber
from staybounds.walks import days_left, steps_of

MOST_SPAN = 6


def equal_counts(book, number):
    """Return the ascending list of the counts with which a limit leaves the book alike."""
    check_number(book, number)
    return [count for count in _counts_of(book[1][number]) if are_alike(book, _with_count(book, number, count))]


def nearest_counts(book, number):
    """Return the tuple (less, more) of the nearest counts that make a difference, or None."""
    equal = equal_counts(book, number)
    limit = book[1][number]
    others = [count for count in _counts_of(limit) if count not in equal]
    less = max([count for count in others if count < limit[2]], default=None)
    more = min([count for count in others if count > limit[2]], default=None)
    return (less, more)


def least_most(book, zones, span):
    """Return the least count of a limit of the kind most that all allowed calendars obey."""
    check_book(book)
    check_zones(book, zones)
    if not is_between(span, 1, MOST_SPAN):
        raise InvalidNumber("not a span from 1 to 6")
    steps = steps_of(book)
    spans = [(past + day)[-span:] for past in steps for day, after in steps[past]]
    return max([len([day for day in days if day in zones]) for days in spans])


def longest_stay(book, zones):
    """Return the greatest number of days of a stay in zones, or None if there is none."""
    check_book(book)
    check_zones(book, zones)
    steps = steps_of(book)
    inside = {past: [step for step in steps[past] if step[0] in zones] for past in steps}
    left = days_left(inside)
    if len(left) < len(inside):
        return None
    return max(left.values())


def _counts_of(limit):
    """Return the ascending list of the counts that the form of a limit allows."""
    low, high = BOUNDS[limit[0]][0]
    return list(range(low, high + 1))


def _with_count(book, number, count):
    """Return the book with another count of one limit."""
    zones, limits = book
    limit = limits[number]
    changed = limit[:2] + (count,) + limit[3:]
    return (zones, limits[:number] + (changed,) + limits[number + 1:])
