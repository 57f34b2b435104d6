"""Wishes, read plainly once more (7.1), and what keeps them, found by trying all days."""

import random

from staybounds.judging import next_days, past_of
from tests.listing import walked_pasts
from tests.plainly import plain_first_broken
from tests.samples import SHORT, TWO, limits_of, zones_of


def plain_keeps(book, calendar, days, wishes):
    if plain_first_broken(book, calendar + days) is not None:
        return False
    for zones, period in wishes:
        for first in range(len(days) - period + 1):
            if not [day for day in days[first:first + period] if day in zones]:
                return False
    return True


def one_more(book, calendar, wishes, level):
    """The strings that keep wishes and are those of a level and one more day, in their order."""
    return [days + day for days in level for day in "." + book[0] if plain_keeps(book, calendar, days + day, wishes)]


def kept_level(book, calendar, wishes, many):
    """The strings of so many days that keep wishes, in ascending order."""
    level = [""]
    for _ in range(many):
        level = one_more(book, calendar, wishes, level)
    return level


def kept_up_to(book, calendar, wishes):
    """The first of the longest strings that keep wishes, where there is such a one."""
    level = [""]
    while level:
        first = level[0]
        level = one_more(book, calendar, wishes, level)
    return first


def keeping_walks(book, calendar, wishes):
    """The steps between (past, the last days after the present), and the place of the calendar."""
    allowed = walked_pasts(book)
    start = (past_of(book, calendar), "")
    steps = {}
    waiting = [start]
    while waiting:
        place = waiting.pop()
        if place in steps:
            continue
        steps[place] = []
        for day, past in allowed[place[0]]:
            seen = (place[1] + day)[-5:]
            if all(len(seen) < period or set(seen[-period:]) & set(zones) for zones, period in wishes):
                steps[place].append((day, (past, seen)))
                waiting.append((past, seen))
    return steps, start


def drawn_wishes(zones, draw):
    wish = [(letters, period) for letters in zones_of(zones) for period in range(1, 6)]
    return tuple(draw.choice(wish) for _ in range(draw.choice([0, 1, 1, 2, 3])))


def drawn_calendar(book, draw):
    """An allowed calendar."""
    calendar = ""
    for _ in range(draw.choice([0, 0, 1, 2, 4, 7, 12, 25])):
        calendar += draw.choice(next_days(book, calendar))
    return calendar


def presents(many, seed):
    """Books, allowed calendars and wishes, the same ones on every run."""
    draw = random.Random(seed)
    limits = {zones: limits_of(zones) for zones in ("a", "ab")}
    for at in range(many):
        zones = ("a", "ab")[at % 2]
        book = (zones, tuple(draw.choice(limits[zones]) for _ in range(draw.randint(1, 4))))
        if at % 10 == 0:
            book = (SHORT, TWO)[at // 10 % 2]
        yield book, drawn_calendar(book, draw), drawn_wishes(book[0], draw)
