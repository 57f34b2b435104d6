"""Which calendars a book allows, and where others break a limit."""

from staybounds.books import check_calendar, day_letters
from staybounds.errors import Broken

PAST_DAYS = 5

# The past of the empty calendar: all days before a calendar are away.
FIRST_PAST = "....."


def is_allowed(book, calendar):
    """Return whether a calendar breaks no limit."""
    return first_broken(book, calendar) is None


def first_broken(book, calendar):
    """Return the tuple (day, number) of what is broken first, or None."""
    check_calendar(book, calendar)
    lived = FIRST_PAST + calendar
    for day in range(len(calendar)):
        number = limit_broken(book, lived[day:day + PAST_DAYS], calendar[day])
        if number is not None:
            return (day, number)
    return None


def past_of(book, calendar):
    """Return the past of a calendar."""
    check_calendar(book, calendar)
    return (FIRST_PAST + calendar)[-PAST_DAYS:]


def next_days(book, calendar):
    """Return the ascending list of the days that can follow an allowed calendar."""
    check_allowed(book, calendar)
    return days_behind(book, past_of(book, calendar))


def check_allowed(book, calendar):
    """Raise InvalidBook, InvalidCalendar, or Broken if the calendar is not allowed."""
    if not is_allowed(book, calendar):
        raise Broken("the calendar breaks a limit")


def days_behind(book, past):
    """Return the ascending list of the days that break no limit behind a past."""
    return [day for day in day_letters(book) if limit_broken(book, past, day) is None]


def limit_broken(book, past, day):
    """Return the number of the first limit that a day behind a past breaks, or None."""
    for number, limit in enumerate(book[1]):
        if _breaks(limit, past + day):
            return number
    return None


def _breaks(limit, days):
    """Return whether a limit is broken on the last one of six days.

    No limit looks further back: a span has at most six days, and a stay that
    begins in a span of starts can be told from the day before it.
    """
    kind, zones, count = limit[:3]
    inside = [day in zones for day in days]
    begun = [now and not before for before, now in zip(inside, inside[1:])]
    if kind == "most":
        return sum(inside[-limit[3]:]) > count
    if kind == "starts":
        return sum(begun[-limit[3]:]) > count
    if kind == "row":
        return all(inside[-1 - count:])
    return begun[-1] and any(inside[-1 - count:-1])
