"""Books, calendars and wrong values that several tests share."""

import random
from itertools import product

SHORT = ("a", (("most", "a", 2, 4),))
TWO = ("ab", (("row", "ab", 2), ("gap", "a", 2)))

LONGEST = 60

# The bounds of 0.5, written out once more: kind, least and greatest count, span.
FORMS = [
    ("most", 0, 6, 1, 6),
    ("row", 0, 5, None, None),
    ("gap", 1, 5, None, None),
    ("starts", 0, 5, 1, 5),
]


def zones_of(zones):
    """The zones that limits of a book with these zones can have."""
    return {"a": ["a"], "ab": ["a", "b", "ab"]}[zones]


def limits_of(zones):
    """All limits of a book with these zones."""
    limits = []
    for kind, least, greatest, shortest, longest in FORMS:
        counts = range(least, greatest + 1)
        if shortest is None:
            limits += list(product([kind], zones_of(zones), counts))
        else:
            limits += list(product([kind], zones_of(zones), counts, range(shortest, longest + 1)))
    return limits


def calendars_up_to(zones, days):
    """All calendars of a book with these zones that have at most so many days."""
    for many in range(days + 1):
        for letters in product("." + zones, repeat=many):
            yield "".join(letters)


def mixed_books(zones, many, seed):
    """Books of two, three and four limits, the same ones on every run."""
    draw = random.Random(seed)
    limits = limits_of(zones)
    return [(zones, tuple(draw.choice(limits) for _ in range(draw.randint(2, 4)))) for _ in range(many)]


def long_calendars(zones, many, seed):
    """Calendars of up to 60 days, from sparse ones to dense ones, the same on every run."""
    draw = random.Random(seed)
    calendars = []
    for _ in range(many):
        letters = "." * draw.randint(1, 9) + zones * draw.randint(1, 3)
        calendars.append("".join(draw.choice(letters) for _ in range(draw.randint(0, LONGEST))))
    return calendars


SCALARS = [
    None, True, False, 0, 1, 2, -1, 5, 6, 7, 10 ** 30, -10 ** 30, 10 ** 6000, -10 ** 6000,
    "", ".", "a", "b", "c", "ab", "ba", "aa", "A", " ", "a ", "a\n", "\n", "?", "p", "a.", "most",
    "row", "gap", "starts", "\u0430", "\ud800", "\x00", "a" * LONGEST, "a" * (LONGEST + 1),
    "most a at 2 in 4",
]

NESTED = [
    [], (), [[]], ((),), [()], ([],), (((((),),),),), [[[[[[]]]]]], ([([([],)],)],), ["a"], ("a",), ["."],
    ("a", "b"), ["a", "b"], ("a", ()), ["a", ()], ("a", []), ("ab", []), ("b", ()), ("ba", ()), ("", ()),
    ("a", None), ("a", ""), ("a", "a"), ("a", 0), (("a",), ()), (["a"], ()), ("a", (), ()), ((), "a"),
    ("a", ((),)), ("a", ([],)), ("a", (None,)), ("a", ("most",)), ("a", ("most", "a", 2, 4)),
    ("a", [("most", "a", 2, 4)]), ("a", (["most", "a", 2, 4],)), ["a", (("most", "a", 2, 4),)],
    ("a", (("most", "a", True, 4),)), ("a", (("most", "a", 2, True),)), ("a", (("row", "a", False),)),
    ("a", (("most", "b", 2, 4),)), ("a", (("most", "ab", 2, 4),)), ("a", (("most", "a", 2, 4), None)),
    ("a", (("row", "a", 2),) * 5), ("ab", (("row", "a", 2),) * 5), ("ab", (("row", "ba", 2),)),
    ("a", ((("row",), "a", 2),)), ("a", ((["row"], "a", 2),)), ("a", (("row", ["a"], 2),)),
    ("a", (("row", "a", [2]),)), ("a", (("row", "a", (((2,),),)),)), (None, None), (1, 2), (True, False),
    [None, True, 3, "a", [1, ("b", [])]], ("most", ("a",), 2, 4), ("row", "a", (2,)), (1, "a", 2),
    ((("most", "a", 2, 4),), "a"), ("c", (("row", "c", 2),)),
]

# Combinations of integers, booleans, None, strings, lists and tuples, at most six deep.
ANYTHING = SCALARS + NESTED
