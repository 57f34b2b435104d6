"""What is sure for somebody who has seen only some days of an allowed calendar."""

from staybounds.books import AWAY, day_letters
from staybounds.errors import NoneAllowed, OtherLength
from staybounds.judging import FIRST_PAST
from staybounds.sightings import SOME_ZONE, UNKNOWN, check_sighting, choices_of
from staybounds.walks import cheapest_walk, least_costs, steps_of, ways_through


def sure_days(book, sighting):
    """Return the sighting with all that holds in all allowed calendars that fit."""
    choices = choices_of(book, sighting)
    steps = steps_of(book)
    ways = ways_through(steps, choices)
    if ways[0][FIRST_PAST] == 0:
        raise NoneAllowed("no allowed calendar fits the sighting")
    told = ""
    pasts = [FIRST_PAST]
    for letters, later in zip(choices, ways[1:]):
        going = [step for past in pasts for step in steps[past] if step[0] in letters and later[step[1]] > 0]
        told = told + _mark_of(sorted({day for day, after in going}))
        pasts = sorted({after for day, after in going})
    return told


def least_wrong(book, sighting):
    """Return the least number of days of a sighting that must be wrong."""
    choices = choices_of(book, sighting)
    return least_costs(steps_of(book), _costs_of(book, choices))[0][FIRST_PAST]


def corrected(book, sighting):
    """Return the first of the allowed calendars with the least number of wrong days."""
    choices = choices_of(book, sighting)
    return cheapest_walk(steps_of(book), _costs_of(book, choices), FIRST_PAST)


def can_be_one(book, one, other):
    """Return whether some allowed calendar fits two sightings."""
    check_sighting(book, one)
    check_sighting(book, other)
    if len(one) != len(other):
        raise OtherLength("the sightings have different numbers of days")
    both = [
        "".join([day for day in letters if day in others])
        for letters, others in zip(choices_of(book, one), choices_of(book, other))
    ]
    return ways_through(steps_of(book), both)[0][FIRST_PAST] > 0


def _mark_of(letters):
    """Return the mark for a day that can have these letters and no others."""
    if len(letters) == 1:
        return letters[0]
    if AWAY in letters:
        return UNKNOWN
    return SOME_ZONE


def _costs_of(book, choices):
    """Return the list of dicts that tell for each day which letters are wrong: they cost 1."""
    return [{day: int(day not in letters) for day in day_letters(book)} for letters in choices]
