"""Whether two books allow the same calendars."""

from staybounds.books import check_book, day_letters
from staybounds.errors import OtherZones
from staybounds.judging import FIRST_PAST, limit_broken
from staybounds.walks import steps_of, walks_from


def parting_calendar(one, other):
    """Return the first of the shortest calendars that just one book allows, or None."""
    _check_books(one, other)
    # Before two books part, both allow the calendar, and so the past is the same.
    walks = walks_from(steps_of((one[0], one[1] + other[1])), FIRST_PAST)
    for past in walks:
        for day in day_letters(one):
            if _allows(one, past, day) != _allows(other, past, day):
                return walks[past] + day
    return None


def are_alike(one, other):
    """Return whether two books allow the same calendars."""
    return parting_calendar(one, other) is None


def is_stricter(one, other):
    """Return whether one book allows just some of the calendars that the other allows."""
    _check_books(one, other)
    return _is_within(one, other) and not _is_within(other, one)


def idle_limits(book):
    """Return the ascending list of the numbers of the limits that make no difference."""
    check_book(book)
    zones, limits = book
    numbers = range(len(limits))
    return [number for number in numbers if are_alike(book, (zones, limits[:number] + limits[number + 1:]))]


def _check_books(one, other):
    """Raise InvalidBook for one, then for other, or OtherZones if their zones differ."""
    check_book(one)
    check_book(other)
    if one[0] != other[0]:
        raise OtherZones("the books have different zones")


def _allows(book, past, day):
    """Return whether a day breaks no limit behind a past."""
    return limit_broken(book, past, day) is None


def _is_within(one, other):
    """Return whether each calendar that one allows is allowed by other."""
    steps = steps_of(one)
    return all([_allows(other, past, day) for past in steps for day, after in steps[past]])
