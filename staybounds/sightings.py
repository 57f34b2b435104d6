"""Sightings: what somebody knows who has seen only some days of a calendar."""

from staybounds.books import MOST_DAYS, check_book, check_calendar, day_letters, is_text_of
from staybounds.errors import InvalidSighting
from staybounds.judging import FIRST_PAST
from staybounds.walks import steps_of, ways_through

SOME_ZONE = "p"
UNKNOWN = "?"


def is_sighting(book, candidate):
    """Return whether candidate is a sighting of a book."""
    check_book(book)
    return is_text_of(day_letters(book) + SOME_ZONE + UNKNOWN, MOST_DAYS, candidate)


def fits(book, sighting, calendar):
    """Return whether a calendar fits a sighting."""
    choices = choices_of(book, sighting)
    check_calendar(book, calendar)
    if len(calendar) != len(choices):
        return False
    return all([day in letters for day, letters in zip(calendar, choices)])


def verdict(book, sighting):
    """Return "allowed", "broken" or "open": whether all, none or some that fit are allowed."""
    allowed, fitting = how_many(book, sighting)
    if allowed == fitting:
        return "allowed"
    if allowed == 0:
        return "broken"
    return "open"


def how_many(book, sighting):
    """Return the tuple of the numbers of the allowed calendars that fit and of all that fit."""
    choices = choices_of(book, sighting)
    return (ways_through(steps_of(book), choices)[0][FIRST_PAST], _ends_of(choices)[0])


def first_allowed(book, sighting):
    """Return the first allowed calendar that fits a sighting, or None."""
    choices = choices_of(book, sighting)
    steps = steps_of(book)
    ways = ways_through(steps, choices)
    past = FIRST_PAST
    if ways[0][past] == 0:
        return None
    calendar = ""
    for letters, later in zip(choices, ways[1:]):
        going = [step for step in steps[past] if step[0] in letters and later[step[1]] > 0]
        day, past = going[0]
        calendar = calendar + day
    return calendar


def first_forbidden(book, sighting):
    """Return the first calendar that fits a sighting and is not allowed, or None."""
    choices = choices_of(book, sighting)
    steps = steps_of(book)
    ways = ways_through(steps, choices)
    ends = _ends_of(choices)
    past = FIRST_PAST
    if ways[0][past] == ends[0]:
        return None
    calendar = ""
    for at, letters in enumerate(choices):
        following = {day: after for day, after in steps[past]}
        wrong = [day for day in letters if day not in following or ways[at + 1][following[day]] < ends[at + 1]]
        calendar = calendar + wrong[0]
        if wrong[0] not in following:
            break
        past = following[wrong[0]]
    # Once a limit is broken, no later day mends it.
    rest = choices[len(calendar):]
    return calendar + "".join([letters[0] for letters in rest])


def check_sighting(book, sighting):
    """Raise InvalidBook, or InvalidSighting if sighting is not a sighting of the book."""
    if not is_sighting(book, sighting):
        raise InvalidSighting("not a sighting of the book")


def choices_of(book, sighting):
    """Return the list of the letters, in ascending order, that each day of a sighting can have.

    Raises InvalidBook, and InvalidSighting.
    """
    check_sighting(book, sighting)
    return [_letters_of(book, mark) for mark in sighting]


def _letters_of(book, mark):
    """Return the letters, in ascending order, that a day with a mark of a sighting can have."""
    if mark == UNKNOWN:
        return day_letters(book)
    if mark == SOME_ZONE:
        return book[0]
    return mark


def _ends_of(choices):
    """Return the list of the numbers of all ways to choose the days behind so many."""
    ends = [1]
    for letters in reversed(choices):
        ends.append(ends[-1] * len(letters))
    return ends[::-1]
