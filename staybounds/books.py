"""Books of rules and their calendars."""

from staybounds.errors import InvalidBook, InvalidCalendar, InvalidNumber, InvalidZones

AWAY = "."
MOST_DAYS = 60
MOST_LIMITS = 4

# For each kind of limit the bounds of the integers behind its zones: those of
# the count, and those of the span where the kind has one.
BOUNDS = {
    "most": ((0, 6), (1, 6)),
    "row": ((0, 5),),
    "gap": ((1, 5),),
    "starts": ((0, 5), (1, 5)),
}


def is_limit(candidate):
    """Return whether candidate is a limit of a book with the zones "ab"."""
    return _is_limit_within(candidate, "ab")


def is_book(candidate):
    """Return whether candidate is a book of rules."""
    if not is_pair(candidate):
        return False
    zones, limits = candidate
    if zones not in ("a", "ab") or not isinstance(limits, tuple):
        return False
    if len(limits) > MOST_LIMITS:
        return False
    return all([_is_limit_within(limit, zones) for limit in limits])


def is_calendar(book, candidate):
    """Return whether candidate is a calendar of a book."""
    check_book(book)
    return is_text_of(day_letters(book), MOST_DAYS, candidate)


def days_in(book, calendar, zones):
    """Return the ascending list of the numbers of the days that are in zones."""
    check_calendar(book, calendar)
    check_zones(book, zones)
    return [number for number, day in enumerate(calendar) if day in zones]


def stays(book, calendar, zones):
    """Return the list of the stays in zones, as tuples (first, last)."""
    found = []
    for number in days_in(book, calendar, zones):
        if found and found[-1][1] == number - 1:
            found[-1] = (found[-1][0], number)
        else:
            found.append((number, number))
    return found


def check_book(book):
    """Raise InvalidBook if book is not a book."""
    if not is_book(book):
        raise InvalidBook("not a book of rules")


def check_calendar(book, calendar):
    """Raise InvalidBook, or InvalidCalendar if calendar is not one of the book."""
    if not is_calendar(book, calendar):
        raise InvalidCalendar("not a calendar of the book")


def check_zones(book, zones):
    """Raise InvalidZones if zones are not zones of a limit of the book."""
    if not are_zones(book, zones):
        raise InvalidZones("not zones of the book")


def check_number(book, number):
    """Raise InvalidBook, or InvalidNumber if number is not that of a limit."""
    check_book(book)
    if not is_between(number, 0, len(book[1]) - 1):
        raise InvalidNumber("not the number of a limit")


def are_zones(book, candidate):
    """Return whether candidate is zones that a limit of the book can have."""
    return candidate in _limit_zones(book[0])


def day_letters(book):
    """Return the letters that a day of a book can have, in ascending order."""
    return AWAY + book[0]


def is_text_of(letters, most, candidate):
    """Return whether candidate is a string of at most so many of these letters."""
    if not isinstance(candidate, str) or len(candidate) > most:
        return False
    return all([letter in letters for letter in candidate])


def is_pair(candidate):
    """Return whether candidate is a tuple of two, of any kinds."""
    return isinstance(candidate, tuple) and len(candidate) == 2


def is_between(candidate, low, high):
    """Return whether candidate is an integer from low to high."""
    # Python counts True and False among the integers, the document does not.
    if isinstance(candidate, bool) or not isinstance(candidate, int):
        return False
    return low <= candidate <= high


def _limit_zones(zones):
    """Return the zones that limits can have in a book with these zones."""
    if zones == "ab":
        return ("a", "b", "ab")
    return ("a",)


def _is_limit_within(candidate, zones):
    """Return whether candidate is a limit of a book with these zones."""
    if not isinstance(candidate, tuple) or len(candidate) < 3:
        return False
    kind = candidate[0]
    # A list can not be looked up in a dict, so the kind must be a string first.
    if not isinstance(kind, str) or kind not in BOUNDS:
        return False
    bounds = BOUNDS[kind]
    numbers = candidate[2:]
    if candidate[1] not in _limit_zones(zones) or len(numbers) != len(bounds):
        return False
    return all([is_between(number, low, high) for number, (low, high) in zip(numbers, bounds)])
