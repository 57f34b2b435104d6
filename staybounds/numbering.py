"""Allowed calendars counted, and numbered in ascending order."""

from staybounds.books import AWAY, MOST_DAYS, check_book, day_letters, is_between
from staybounds.errors import InvalidNumber
from staybounds.judging import FIRST_PAST, check_allowed
from staybounds.walks import steps_of, ways_through


def count_allowed(book, days):
    """Return the number of the allowed calendars with so many days."""
    _check_days(book, days)
    return _ways_behind(book, steps_of(book), days)[0][FIRST_PAST]


def count_with(book, days, many):
    """Return the number of the allowed calendars with so many days, just so many of them not away."""
    _check_days(book, days)
    _check_number_of_days(many)
    if many > days:
        return 0
    steps = steps_of(book)
    # For each past the counts of the ways to go on, by how many days are not away.
    counts = {past: [1] for past in steps}
    for _ in range(days):
        counts = {past: _added([_counts_with(day, counts[after]) for day, after in steps[past]]) for past in steps}
    return counts[FIRST_PAST][many]


def number_of(book, calendar):
    """Return the number of an allowed calendar among those with as many days."""
    check_allowed(book, calendar)
    steps = steps_of(book)
    number = 0
    past = FIRST_PAST
    for letter, later in zip(calendar, _ways_behind(book, steps, len(calendar))[1:]):
        first, day, past = [step for step in _numbered(steps[past], later) if step[1] == letter][0]
        number += first
    return number


def calendar_at(book, days, number):
    """Return the allowed calendar with so many days that has a number."""
    _check_days(book, days)
    steps = steps_of(book)
    ways = _ways_behind(book, steps, days)
    if not is_between(number, 0, ways[0][FIRST_PAST] - 1):
        raise InvalidNumber("not the number of an allowed calendar")
    calendar = ""
    past = FIRST_PAST
    left = number
    for later in ways[1:]:
        first, day, past = [step for step in _numbered(steps[past], later) if step[0] <= left][-1]
        left -= first
        calendar = calendar + day
    return calendar


def _check_days(book, days):
    """Raise InvalidBook, or InvalidNumber if days are not the number of the days of a calendar."""
    check_book(book)
    _check_number_of_days(days)


def _check_number_of_days(candidate):
    """Raise InvalidNumber if candidate is not an integer from 0 to 60."""
    if not is_between(candidate, 0, MOST_DAYS):
        raise InvalidNumber("not a number of days from 0 to 60")


def _ways_behind(book, steps, days):
    """Return the list of dicts that tell in how many ways allowed calendars go on to so many days."""
    return ways_through(steps, [day_letters(book)] * days)


def _counts_with(day, counts):
    """Return the counts by how many days are not away, with one more day before them."""
    if day == AWAY:
        return counts + [0]
    return [0] + counts


def _added(rows):
    """Return the list of the sums of equally long rows of numbers."""
    return [sum(column) for column in zip(*rows)]


def _numbered(going, later):
    """Return the list of steps (first, day, after), each with the first number of what goes on by it."""
    numbered = []
    first = 0
    for day, after in going:
        numbered.append((first, day, after))
        first += later[after]
    return numbered
