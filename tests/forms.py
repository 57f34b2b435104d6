"""Which arguments are right (0.3 to 0.8, 3.1, 4.1, 4.3, 6.2, 7.1, 8.1, 10.1, 14.1, 14.2), read plainly once more."""

import re
from fractions import Fraction

from tests.plainly import plain_first_broken, plain_is_calendar


def is_number(candidate, low, high):
    return type(candidate) is int and low <= candidate <= high


def is_zones(zones, candidate):
    return type(candidate) is str and candidate in {"a": ["a"], "ab": ["a", "b", "ab"]}[zones]


def is_past(zones, candidate):
    return plain_is_calendar(zones, candidate) and len(candidate) == 5


def is_weights(zones, candidate):
    if type(candidate) is not tuple or len(candidate) != len(zones):
        return False
    return all(is_number(weight, 0, 9) for weight in candidate)


def is_fraction(candidate):
    if type(candidate) is not tuple or len(candidate) != 2:
        return False
    if not is_number(candidate[0], 0, 1000) or not is_number(candidate[1], 1, 1000):
        return False
    return Fraction(candidate[0], candidate[1]).denominator == candidate[1]


def is_string_of(letters, most, candidate):
    return type(candidate) is str and re.fullmatch("[%s]{0,%d}" % (letters, most), candidate) is not None


def is_plain_loop(book, candidate):
    if type(candidate) is not tuple or len(candidate) != 2:
        return False
    if not all(is_string_of("." + book[0], 300, part) for part in candidate):
        return False
    begin, loop = candidate
    return loop != "" and all(plain_first_broken(book, begin + loop * many) is None for many in (0, 1, 2, 3, 6, 12))


def is_plain_wishes(zones, candidate):
    if type(candidate) is not tuple or len(candidate) > 3:
        return False
    for wish in candidate:
        if type(wish) is not tuple or len(wish) != 2 or not is_zones(zones, wish[0]) or not is_number(wish[1], 1, 5):
            return False
    return True


def is_plain_sighting(zones, candidate):
    return is_string_of(".?p" + zones, 60, candidate)


def is_plain_days(sighting, candidate):
    if type(candidate) is not tuple or not all(is_number(day, 0, len(sighting) - 1) for day in candidate):
        return False
    return list(candidate) == sorted(set(candidate))


def is_book_text(candidate):
    """Whether candidate is the format of a book."""
    if type(candidate) is not str:
        return False
    found = re.fullmatch(r"zones (a|ab)\n((?:[^\n]*\n){0,4})", candidate)
    if found is None:
        return False
    zones = {"a": "a", "ab": "(a|b|ab)"}[found[1]]
    forms = ["most %s at [0-6] in [1-6]", "row %s at [0-5]", "gap %s at [1-5]", "starts %s at [0-5] in [1-5]"]
    lines = found[2].split("\n")[:-1]
    return all(any(re.fullmatch(form % zones, line) for form in forms) for line in lines)


def is_calendar_text(zones, candidate):
    """Whether candidate is the format of a calendar."""
    if type(candidate) is not str or len(candidate.replace("\n", "")) > 60:
        return False
    return re.fullmatch(r"(?:[.%s]{7}\n)*(?:[.%s]{1,6}\n)?" % (zones, zones), candidate) is not None


def is_plain_ceiling(book, fraction, weights, candidate, steps):
    """Whether candidate is a ceiling, where steps has those of all pasts in it."""
    if type(candidate) is not list or sorted(candidate) != candidate:
        return False
    numbers = dict(candidate)
    if len(numbers) != len(candidate) or "....." not in numbers:
        return False
    worth = dict(zip("." + book[0], (0,) + weights))
    for past, number in candidate:
        for day, after in steps[past]:
            if after not in numbers or numbers[after] > number + fraction[0] - fraction[1] * worth[day]:
                return False
    return all(is_number(number, 0, 10 ** 7) for number in numbers.values())


def spoiled(value):
    """What becomes of a value if one place in it, or how many parts it has, is changed."""
    if type(value) in (tuple, list):
        yield list(value) if type(value) is tuple else tuple(value)
        extra = [None] if type(value) is list else (None,)
        yield value + extra
        yield value * 2
        if value:
            yield value[1:]
            yield value[:-1]
        for at, part in enumerate(value):
            for other in spoiled(part):
                yield value[:at] + type(value)([other]) + value[at + 1:]
    elif type(value) is int:
        yield from [True, False, None, str(value), (value,), [value], -1 - value, value + 1, value + 10 ** 30, value - 1]
    elif type(value) is str:
        yield from [None, True, len(value), list(value), tuple(value), (value,), [value], value.upper()]
        yield from [value + "c", value + "\n", value + "b", value + "?", value * 60, value[1:], " " + value, ""]
