"""Groups (12.1), read plainly once more, and common days found by listing all continuations."""

import random
from itertools import product

from staybounds.judging import is_allowed
from tests.forms import is_zones
from tests.keeping import drawn_calendar
from tests.listing import walked_pasts
from tests.plainly import plain_first_broken, plain_is_book, plain_is_calendar
from tests.samples import mixed_books, zones_of


def is_plain_group(candidate):
    if type(candidate) is not tuple or len(candidate) not in (1, 2):
        return False
    for member in candidate:
        if type(member) is not tuple or len(member) != 3:
            return False
        book, calendar, zones = member
        if not plain_is_book(book) or not plain_is_calendar(book[0], calendar) or not is_zones(book[0], zones):
            return False
        if plain_first_broken(book, calendar) is not None:
            return False
    return True


def continuations(member, days):
    """All calendars of so many days with which a member stays allowed, in ascending order."""
    book, calendar, zones = member
    level = [""]
    for _ in range(days):
        level = [more + day for more in level for day in "." + book[0] if is_allowed(book, calendar + more + day)]
    return level


def common_days(group, plan):
    """The numbers of the days of a plan on which all members are in their zones."""
    found = []
    for number, letters in enumerate(zip(*plan)):
        if all(letter in list(member[2]) for letter, member in zip(letters, group)):
            found.append(number)
    return found


def listed_best(group, days):
    """The greatest number of common days, and the first plan that has it."""
    plans = list(product(*[continuations(member, days) for member in group]))
    most = max(len(common_days(group, plan)) for plan in plans)
    return most, min(plan for plan in plans if len(common_days(group, plan)) == most)


def listed_first(group, days):
    """The first common day among so many days, or None."""
    plans = product(*[continuations(member, days) for member in group])
    return min([number for plan in plans for number in common_days(group, plan)[:1]], default=None)


def walk_together(group):
    """The tuples of pasts that a group can come to, and the first common day, walked day by day."""
    steps = [walked_pasts(book) for book, calendar, zones in group]
    level = {tuple(("....." + calendar)[-5:] for book, calendar, zones in group)}
    seen = set(level)
    first = None
    many = 0
    while level:
        later = set()
        for place in level:
            for moves in product(*[own[past] for own, past in zip(steps, place)]):
                if first is None and common_days(group, tuple(day for day, past in moves)):
                    first = many
                later.add(tuple(past for day, past in moves))
        level = later - seen
        seen |= level
        many += 1
    return seen, first


def groups(zones, members, many, seed):
    """Groups of one or two members, the same ones on every run."""
    draw = random.Random(seed)
    books = mixed_books(zones, many * members, seed)
    for at in range(many):
        own = books[at * members:(at + 1) * members]
        yield tuple((book, drawn_calendar(book, draw), draw.choice(zones_of(zones))) for book in own)
