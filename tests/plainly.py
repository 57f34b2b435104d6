"""A plain reading of the definitions 0.5 and 0.6, which shares nothing with the package.

It looks at all spans, stays and pairs of stays of the whole calendar, one by one.
"""

import re

from tests.samples import limits_of


def with_kinds(value):
    """A value with the kind of each part, so that 1 is not True and a tuple is no list."""
    if type(value) in (list, tuple):
        return (type(value), tuple(with_kinds(part) for part in value))
    return (type(value), value)


LIMITS = {zones: {with_kinds(limit) for limit in limits_of(zones)} for zones in ("a", "ab")}


def plain_is_limit(candidate, zones):
    """Whether candidate is one of the listed limits."""
    return with_kinds(candidate) in LIMITS[zones]


def plain_is_book(candidate):
    if type(candidate) is not tuple or len(candidate) != 2:
        return False
    if type(candidate[0]) is not str or type(candidate[1]) is not tuple:
        return False
    if candidate[0] not in LIMITS or len(candidate[1]) > 4:
        return False
    return not [limit for limit in candidate[1] if not plain_is_limit(limit, candidate[0])]


def plain_is_calendar(zones, candidate):
    return type(candidate) is str and re.fullmatch("[." + zones + "]{0,60}", candidate) is not None


def plain_stays(calendar, zones):
    return [(found.start(), found.end() - 1) for found in re.finditer("[" + zones + "]+", calendar)]


def days_broken(limit, calendar):
    """The days on which a limit is broken, first ones of stays, spans and pairs, in any order."""
    kind, zones, count = limit[:3]
    found = plain_stays(calendar, zones)
    if kind == "row":
        return [first + count for first, last in found if last - first + 1 > count]
    if kind == "gap":
        return [
            found[later][0]
            for later in range(len(found))
            for earlier in range(later)
            if found[later][0] - found[earlier][1] - 1 < count
        ]
    span = limit[3]
    if kind == "most":
        marked = [day for first, last in found for day in range(first, last + 1)]
    else:
        marked = [first for first, last in found]
    ends = range(len(calendar))
    return [end for end in ends if len([day for day in marked if end - span < day <= end]) > count]


def plain_first_broken(book, calendar):
    """The least tuple (day, number) of all days on which a limit is broken."""
    broken = []
    for number, limit in enumerate(book[1]):
        broken += [(day, number) for day in days_broken(limit, calendar)]
    return min(broken, default=None)


def obeys(limit, calendar):
    """Whether a calendar, away for ever before and behind it, obeys what 0.5 says of a limit."""
    kind, zones, count = limit[:3]
    inside = [letter in list(zones) for letter in "." * 7 + calendar + "." * 7]
    starts = [at for at in range(1, len(inside)) if inside[at] and not inside[at - 1]]
    if kind == "row":
        return not any(all(inside[at:at + count + 1]) for at in range(len(inside) - count))
    if kind == "gap":
        return all(not any(inside[at - count:at]) or inside[at - 1] for at in starts)
    span = limit[3]
    for at in range(len(inside) - span + 1):
        if kind == "most" and inside[at:at + span].count(True) > count:
            return False
        if kind == "starts" and len([s for s in starts if at <= s < at + span]) > count:
            return False
    return True


def first_broken_by_beginnings(book, calendar):
    """The last day of the shortest beginning that does not obey all limits, and the first such limit."""
    for many in range(1, len(calendar) + 1):
        for number, limit in enumerate(book[1]):
            if not obeys(limit, calendar[:many]):
                return (many - 1, number)
    return None


def plain_breaches(book, calendar):
    """All tuples (day, number, first) of 11.1, found by looking at each day for each limit."""
    found = set()
    for number, limit in enumerate(book[1]):
        kind, zones, count = limit[:3]
        inside = {day for day, letter in enumerate(calendar) if letter in list(zones)}
        begins = {day for day in inside if day - 1 not in inside}
        for day in range(len(calendar)):
            if kind in ("most", "starts"):
                window = set(range(day - limit[3] + 1, day + 1))
                if len(window & (inside if kind == "most" else begins)) > count:
                    found.add((day, number, min(window)))
            elif kind == "row":
                for first in begins:
                    if first + count <= day and set(range(first, day + 1)) <= inside:
                        found.add((day, number, first))
            elif day in begins:
                for last in inside:
                    if last < day <= last + count and not set(range(last + 1, day)) & inside:
                        found.add((day, number, last))
    return sorted(found)
