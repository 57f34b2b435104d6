"""The same answers by listing calendars, and by looking at all spans, stays and pairs of stays."""

from staybounds.books import check_book, check_calendar, day_letters, is_between, stays
from staybounds.errors import InvalidNumber, OtherZones

MOST_LISTED_DAYS = 6


def all_calendars(book, days):
    """Return the ascending list of all calendars with so many days."""
    check_book(book)
    _check_days(days)
    calendars = [""]
    for _ in range(days):
        calendars = [calendar + day for calendar in calendars for day in day_letters(book)]
    return calendars


def naive_allowed(book, calendar):
    """Return whether a calendar breaks no limit."""
    check_calendar(book, calendar)
    return all([_obeys(book, calendar, limit) for limit in book[1]])


def naive_count(book, days):
    """Return the number of the allowed calendars with so many days."""
    return len([calendar for calendar in all_calendars(book, days) if naive_allowed(book, calendar)])


def naive_parting(one, other, days):
    """Return the first of the shortest calendars, of at most so many days, that just one book allows, or None."""
    check_book(one)
    check_book(other)
    if one[0] != other[0]:
        raise OtherZones("the books have different zones")
    _check_days(days)
    for many in range(days + 1):
        for calendar in all_calendars(one, many):
            if naive_allowed(one, calendar) != naive_allowed(other, calendar):
                return calendar
    return None


def _check_days(days):
    """Raise InvalidNumber if days are too many to list all calendars."""
    if not is_between(days, 0, MOST_LISTED_DAYS):
        raise InvalidNumber("not a number of days from 0 to 6")


def _obeys(book, calendar, limit):
    """Return whether a calendar obeys a limit."""
    kind, zones, count = limit[:3]
    found = stays(book, calendar, zones)
    if kind == "row":
        return all([last - first + 1 <= count for first, last in found])
    if kind == "gap":
        return all([
            late[0] - early[1] - 1 >= count
            for at, early in enumerate(found)
            for late in found[at + 1:]
        ])
    if kind == "most":
        counted = [day for first, last in found for day in range(first, last + 1)]
    else:
        counted = [first for first, last in found]
    return all([
        len([day for day in counted if first <= day < first + limit[3]]) <= count
        for first in range(1 - limit[3], len(calendar))
    ])
