"""Walks over places: a place has steps, each a tuple of a day and the next place.

All steps together are a dict from each place to the list of its steps, in
ascending order of their days. The places of a book are its pasts; other
modules make places of their own.
"""

from collections import deque

from staybounds.judging import FIRST_PAST, days_behind


def next_past(past, day):
    """Return the past of a calendar that has a past and then one more day."""
    return past[1:] + day


def steps_of(book):
    """Return the steps from the pasts of all allowed calendars to each other."""
    steps = {}
    waiting = deque([FIRST_PAST])
    while waiting:
        past = waiting.popleft()
        if past not in steps:
            steps[past] = [(day, next_past(past, day)) for day in days_behind(book, past)]
            waiting.extend([after for day, after in steps[past]])
    return steps


def walks_from(steps, start):
    """Return a dict from each place that can be reached to the first of the shortest walks.

    A walk is the string of its days. The dict has the shorter walks first, and
    equally long ones in ascending order, since places are reached in this order.
    """
    walks = {start: ""}
    waiting = deque([start])
    while waiting:
        place = waiting.popleft()
        for day, after in steps[place]:
            if after not in walks:
                walks[after] = walks[place] + day
                waiting.append(after)
    return walks


def days_left(steps):
    """Return a dict from each place to the number of days of its longest walk.

    Places from which walks can go on for ever are not in it.
    """
    left = {}
    lasting = list(steps)
    ending = lasting
    many = 0
    while ending:
        ending = [place for place in lasting if all([after in left for day, after in steps[place]])]
        for place in ending:
            left[place] = many
        lasting = [place for place in lasting if place not in left]
        many += 1
    return left


def ways_through(steps, choices):
    """Return the list of dicts that tell in how many ways a walk goes on.

    Choices are a list of the letters that each day can have. The dict behind so
    many days has for each place the number of the ways to walk the other days.
    """
    ways = [{place: 1 for place in steps}]
    for letters in reversed(choices):
        later = ways[-1]
        ways.append({
            place: sum([later[after] for day, after in steps[place] if day in letters])
            for place in steps
        })
    return ways[::-1]


def least_costs(steps, costs):
    """Return the list of dicts that tell at what least cost a walk goes on.

    Costs are a list of dicts from the letters that each day can have to what
    they cost. The dict behind so many days has for each place the least cost of
    the other days. At each place one of the letters must be that of a step.
    """
    least = [{place: 0 for place in steps}]
    for cost in reversed(costs):
        later = least[-1]
        least.append({
            place: min([cost[day] + later[after] for day, after in steps[place] if day in cost])
            for place in steps
        })
    return least[::-1]


def cheapest_walk(steps, costs, start):
    """Return the first of the walks from a place that have the least cost."""
    least = least_costs(steps, costs)
    days = ""
    place = start
    for at, cost in enumerate(costs):
        best = [
            step for step in steps[place]
            if step[0] in cost and cost[step[0]] + least[at + 1][step[1]] == least[at][place]
        ]
        day, place = best[0]
        days = days + day
    return days
