"""Broken limits with what breaks them, and how few days away mend them."""

from staybounds.books import AWAY, check_calendar, check_number, days_in, stays
from staybounds.judging import FIRST_PAST
from staybounds.walks import cheapest_walk, least_costs, steps_of


def breaches(book, calendar):
    """Return the ascending list of all breaches, tuples (day, number, first)."""
    check_calendar(book, calendar)
    return sorted([breach for number in range(len(book[1])) for breach in _breaches_of(book, calendar, number)])


def broken_days(book, calendar):
    """Return the ascending list of the days of all breaches, each once."""
    return sorted({day for day, number, first in breaches(book, calendar)})


def breaches_of(book, calendar, number):
    """Return the ascending list of the breaches of the limit with a number."""
    check_calendar(book, calendar)
    check_number(book, number)
    return _breaches_of(book, calendar, number)


def fewest_away(book, calendar):
    """Return the least number of days that must become days away so that the calendar is allowed."""
    check_calendar(book, calendar)
    return least_costs(steps_of(book), _costs_of(calendar))[0][FIRST_PAST]


def thinned(book, calendar):
    """Return the first of the allowed calendars in which so few days have become days away."""
    check_calendar(book, calendar)
    return cheapest_walk(steps_of(book), _costs_of(calendar), FIRST_PAST)


def _breaches_of(book, calendar, number):
    """Return the ascending list of the breaches of the limit with a number."""
    limit = book[1][number]
    kind, zones, count = limit[:3]
    found = stays(book, calendar, zones)
    if kind == "row":
        return [(day, number, first) for first, last in found for day in range(first + count, last + 1)]
    if kind == "gap":
        return [(late[0], number, early[1]) for early, late in zip(found, found[1:]) if late[0] - early[1] <= count]
    if kind == "most":
        counted = days_in(book, calendar, zones)
    else:
        counted = [first for first, last in found]
    spans = [(day - limit[3] + 1, day) for day in range(len(calendar))]
    return [(last, number, first) for first, last in spans if _many_within(counted, first, last) > count]


def _many_within(days, first, last):
    """Return how many of some days are from a first one to a last one."""
    return len([day for day in days if first <= day <= last])


def _costs_of(calendar):
    """Return the list of dicts that tell what each day may become: a day that becomes one away costs 1."""
    return [{AWAY: int(day != AWAY), day: 0} for day in calendar]
