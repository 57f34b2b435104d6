"""What is sure for somebody who has seen only some days of an allowed calendar."""

from staybounds.books import AWAY
from staybounds.errors import NoneAllowed, OtherLength
from staybounds.judging import FIRST_PAST
from staybounds.sightings import SOME_ZONE, UNKNOWN, check_sighting, choices_of, ways_through
from staybounds.walks import steps_of


def sure_days(book, sighting):
    """Return the sighting with all that holds in all allowed calendars that fit."""
    choices = choices_of(book, sighting)
    steps = steps_of(book)
    ways = ways_through(steps, choices)
    if ways[0][FIRST_PAST] == 0:
        raise NoneAllowed("no allowed calendar fits the sighting")
    told = ""
    pasts = [FIRST_PAST]
    for letters, later in zip(choices, ways[1:]):
        going = [step for past in pasts for step in steps[past] if step[0] in letters and later[step[1]] > 0]
        told = told + _mark_of(sorted({day for day, after in going}))
        pasts = sorted({after for day, after in going})
    return told


def least_wrong(book, sighting):
    """Return the least number of days of a sighting that must be wrong."""
    choices = choices_of(book, sighting)
    return _wrong_behind(steps_of(book), choices)[0][FIRST_PAST]


def corrected(book, sighting):
    """Return the first of the allowed calendars with the least number of wrong days."""
    choices = choices_of(book, sighting)
    steps = steps_of(book)
    wrong = _wrong_behind(steps, choices)
    calendar = ""
    past = FIRST_PAST
    for at, letters in enumerate(choices):
        best = [
            step for step in steps[past]
            if _is_wrong(step[0], letters) + wrong[at + 1][step[1]] == wrong[at][past]
        ]
        day, past = best[0]
        calendar = calendar + day
    return calendar


def can_be_one(book, one, other):
    """Return whether some allowed calendar fits two sightings."""
    check_sighting(book, one)
    check_sighting(book, other)
    if len(one) != len(other):
        raise OtherLength("the sightings have different numbers of days")
    both = [
        "".join([day for day in letters if day in others])
        for letters, others in zip(choices_of(book, one), choices_of(book, other))
    ]
    return ways_through(steps_of(book), both)[0][FIRST_PAST] > 0


def _mark_of(letters):
    """Return the mark for a day that can have these letters and no others."""
    if len(letters) == 1:
        return letters[0]
    if AWAY in letters:
        return UNKNOWN
    return SOME_ZONE


def _is_wrong(day, letters):
    """Return 1 if a day is none of the letters that were seen, and otherwise 0."""
    return int(day not in letters)


def _wrong_behind(steps, choices):
    """Return the list of dicts that tell how many days must be wrong from a past on.

    The dict behind so many days has for each past the least number for the
    other days, if they break no limit.
    """
    wrong = [{past: 0 for past in steps}]
    for letters in reversed(choices):
        later = wrong[-1]
        wrong.append({
            past: min([_is_wrong(day, letters) + later[after] for day, after in steps[past]])
            for past in steps
        })
    return wrong[::-1]
