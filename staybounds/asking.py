"""Which unknown days of a sighting to ask for."""

from staybounds.books import is_between
from staybounds.errors import InvalidDays, TooMany
from staybounds.judging import FIRST_PAST
from staybounds.sightings import SOME_ZONE, UNKNOWN, choices_of
from staybounds.walks import steps_of, ways_through

MOST_UNKNOWN = 8


def settles(book, sighting, days):
    """Return whether asking for some days tells if the calendar is allowed, whatever is answered."""
    choices = choices_of(book, sighting)
    if not _are_days(choices, days):
        raise InvalidDays("not an ascending tuple of numbers of days of the sighting")
    _check_unknown(sighting)
    return all([day in days for day in _deciding_days(book, choices)])


def fewest_asked(book, sighting):
    """Return the first of the shortest tuples of unknown days that settle a sighting."""
    choices = choices_of(book, sighting)
    _check_unknown(sighting)
    return tuple(_deciding_days(book, choices))


def best_day(book, sighting):
    """Return the first unknown day whose answer leaves the fewest allowed calendars at worst, or None."""
    choices = choices_of(book, sighting)
    steps = steps_of(book)
    reached = {FIRST_PAST: 1}
    left = []
    for letters, later in zip(choices, ways_through(steps, choices)[1:]):
        # Each step with the number of the ways to come to it.
        going = [(day, after, reached[past]) for past in reached for day, after in steps[past] if day in letters]
        left.append(max([_ways_with(letter, going, later) for letter in letters]))
        reached = _ways_to(going)
    return min([(left[day], day) for day in _unknown_days(sighting)], default=(0, None))[1]


def _unknown_days(sighting):
    """Return the ascending list of the numbers of the unknown days of a sighting."""
    return [number for number, mark in enumerate(sighting) if mark in (SOME_ZONE, UNKNOWN)]


def _check_unknown(sighting):
    """Raise TooMany if a sighting has too many unknown days."""
    if len(_unknown_days(sighting)) > MOST_UNKNOWN:
        raise TooMany("more than 8 unknown days")


def _are_days(choices, candidate):
    """Return whether candidate is an ascending tuple of numbers of days of a sighting."""
    if not isinstance(candidate, tuple):
        return False
    if not all([is_between(day, 0, len(choices) - 1) for day in candidate]):
        return False
    return all([one < other for one, other in zip(candidate, candidate[1:])])


def _deciding_days(book, choices):
    """Return the ascending list of the days with which it can change whether the calendar is allowed.

    Asking for days settles a sighting exactly if all of these are among them:
    the others can be changed one after the other, and nothing is decided by it.
    """
    pasts = _pasts_of_fitting(book, choices)
    return [number for number, letters in enumerate(choices) if _decides(pasts, number, letters)]


def _pasts_of_fitting(book, choices):
    """Return a dict from each calendar that fits to its past, or to None if it is not allowed."""
    steps = steps_of(book)
    following = {past: dict(steps[past]) for past in steps}
    # What is broken stays broken.
    following[None] = {}
    pasts = {"": FIRST_PAST}
    for letters in choices:
        pasts = {calendar + day: following[pasts[calendar]].get(day) for calendar in pasts for day in letters}
    return pasts


def _decides(pasts, number, letters):
    """Return whether a calendar that fits is allowed, and another one, different only on a day, is not."""
    return any([
        (pasts[calendar] is None) != (pasts[calendar[:number] + day + calendar[number + 1:]] is None)
        for calendar in pasts
        for day in letters
    ])


def _ways_with(letter, going, later):
    """Return the number of the allowed calendars that go on by a step with a letter."""
    return sum([many * later[after] for day, after, many in going if day == letter])


def _ways_to(going):
    """Return a dict from each past that some steps lead to, to the number of the ways to come to it."""
    reached = {}
    for day, after, many in going:
        reached[after] = reached.get(after, 0) + many
    return reached
