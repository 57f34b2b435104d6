"""The pasts of all allowed calendars."""

from staybounds.books import check_book, is_calendar
from staybounds.errors import InvalidPast
from staybounds.judging import FIRST_PAST, PAST_DAYS
from staybounds.walks import steps_of, walks_from


def all_pasts(book):
    """Return the ascending list of the pasts of all allowed calendars."""
    check_book(book)
    return sorted(steps_of(book))


def calendar_to(book, past):
    """Return the first of the shortest allowed calendars with a past, or None."""
    if not is_calendar(book, past) or len(past) != PAST_DAYS:
        raise InvalidPast("not a calendar of five days of the book")
    return walks_from(steps_of(book), FIRST_PAST).get(past)
