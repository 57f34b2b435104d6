"""Cycles of steps with the greatest mean worth of their days.

A ceiling of a share (above, below) gives each place a number such that no step
leads to a number that is greater than that of the place, plus above, less below
multiplied by the worth of the day. Where there is one, no cycle has a greater
share: around a cycle the numbers come back to where they were.
"""

from math import gcd

# Less than the share of any cycle, for no day is worth less than nothing.
NO_SHARE = (-1, 1)


def mean_worth(days, worth):
    """Return the mean worth of a string of days, as a fraction."""
    total = sum([worth[day] for day in days])
    shared = gcd(total, len(days))
    return (total // shared, len(days) // shared)


def greatest_cycle(steps, worth):
    """Return a tuple (share, place, days) of a cycle with the greatest share, or None.

    The days lead from the place back to it; None if there is no cycle.
    """
    found = None
    better = _search(steps, worth, NO_SHARE)[1]
    while better is not None:
        place, days = better
        found = (mean_worth(days, worth), place, days)
        better = _search(steps, worth, found[0])[1]
    return found


def ceiling_numbers(steps, worth, share):
    """Return a dict from each place to its number in a ceiling for the greatest share.

    The least number is 0. No number is great: it is reached from another one
    by a walk that comes to no place twice.
    """
    numbers = _search(steps, worth, share)[0]
    least = min(numbers.values())
    return {place: numbers[place] - least for place in numbers}


def _search(steps, worth, share):
    """Return the tuple of a ceiling's numbers, from 0 downwards, and None.

    If there is a cycle with a greater share, it stands in place of None, as a
    tuple (place, days), and the numbers are no ceiling.
    """
    above, below = share
    numbers = {place: 0 for place in steps}
    lowered_by = {}
    changed = True
    while changed:
        changed = False
        for place in steps:
            for day, after in steps[place]:
                number = numbers[place] + above - below * worth[day]
                if number < numbers[after]:
                    numbers[after] = number
                    lowered_by[after] = (place, day)
                    changed = True
        place = _place_on_cycle(lowered_by)
        if place is not None:
            return (numbers, (place, _days_around(lowered_by, place)))
    return (numbers, None)


def _place_on_cycle(lowered_by):
    """Return a place that is led back to itself by what lowered its number, or None."""
    visits = {}
    for start in lowered_by:
        place = start
        while place in lowered_by and place not in visits:
            visits[place] = start
            place = lowered_by[place][0]
        # A place that an earlier round visited was found to lead to no cycle.
        if visits.get(place) == start:
            return place
    return None


def _days_around(lowered_by, place):
    """Return the days of the cycle of what lowered the numbers, from a place on it."""
    before, day = lowered_by[place]
    days = [day]
    while before != place:
        before, day = lowered_by[before]
        days.append(day)
    return "".join(reversed(days))
