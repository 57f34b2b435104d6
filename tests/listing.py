"""Answers found by listing allowed calendars, or by walking from past to past, one by one."""

from collections import Counter
from fractions import Fraction
from itertools import product

from staybounds.judging import is_allowed, next_days, past_of


def allowed_up_to(book, days):
    """The allowed calendars with at most so many days: shorter ones first, equally long ones ascending."""
    level = [""]
    found = [""]
    for _ in range(days):
        level = [calendar + day for calendar in level for day in "." + book[0] if is_allowed(book, calendar + day)]
        found += level
    return found


def first_parting(one, other, days):
    """The first of the shortest calendars of at most so many days that just one book allows, or None."""
    level = [""]
    for _ in range(days):
        longer = []
        for calendar in level:
            for day in "." + one[0]:
                allowed = (is_allowed(one, calendar + day), is_allowed(other, calendar + day))
                if allowed[0] != allowed[1]:
                    return calendar + day
                if allowed[0]:
                    longer.append(calendar + day)
        level = longer
    return None


def walked_pasts(book):
    """The steps (day, next past) from each past that is found by walking on from the empty calendar."""
    steps = {}
    waiting = [""]
    while waiting:
        calendar = waiting.pop(0)
        past = past_of(book, calendar)
        if past not in steps:
            following = next_days(book, calendar)
            steps[past] = [(day, past_of(book, calendar + day)) for day in following]
            waiting += [calendar + day for day in following]
    return steps


def walked_counts(book, days):
    """The numbers of the allowed calendars by the number of days that are not away, walked day by day."""
    steps = walked_pasts(book)
    ways = Counter({(".....", 0): 1})
    for _ in range(days):
        later = Counter()
        for (past, many), number in ways.items():
            for day, after in steps[past]:
                later[after, many + (day != ".")] += number
        ways = later
    counts = Counter()
    for (past, many), number in ways.items():
        counts[many] += number
    return counts


def worth_of(book, weights):
    return dict(zip("." + book[0], (0,) + weights))


def mean_of(days, worth):
    """The mean worth of days as a tuple in lowest terms."""
    mean = Fraction(sum(worth[day] for day in days), len(days))
    return (mean.numerator, mean.denominator)


def greatest_mean(steps, start, worth):
    """The greatest mean of all cycles that can be reached, by Karp's theorem, or None."""
    best = [{start: 0}]
    reached = {start}
    waiting = [start]
    while waiting:
        for _, after in steps[waiting.pop()]:
            if after not in reached:
                reached.add(after)
                waiting.append(after)
    for _ in range(len(reached)):
        level = {}
        for place, total in best[-1].items():
            for day, after in steps[place]:
                level[after] = max(level.get(after, 0), total + worth[day])
        best.append(level)
    means = []
    for place, total in best[-1].items():
        means.append(min(
            Fraction(total - level[place], len(best) - 1 - many)
            for many, level in enumerate(best[:-1]) if place in level
        ))
    if not means:
        return None
    return (max(means).numerator, max(means).denominator)


def greatest_closed_walk(steps, worth):
    """The greatest mean of all walks that come back to their beginning and are no longer than a cycle can be."""
    greatest = Fraction(-1)
    for start in steps:
        level = {start: 0}
        for many in range(1, len(steps) + 1):
            longer = {}
            for place, total in level.items():
                for day, after in steps[place]:
                    longer[after] = max(longer.get(after, 0), total + worth[day])
            level = longer
            if start in level:
                greatest = max(greatest, Fraction(level[start], many))
    return (greatest.numerator, greatest.denominator)


def fitting(book, sighting):
    """All calendars that fit a sighting, in ascending order."""
    letters = {"?": "." + book[0], "p": book[0]}
    return ["".join(days) for days in product(*[letters.get(mark, mark) for mark in sighting])]
