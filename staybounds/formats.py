"""Text formats of books and calendars."""

from staybounds.books import check_book, check_calendar, is_book, is_calendar
from staybounds.errors import ParseError

WEEK_DAYS = 7
DIGITS = "0123456789"


def format_book(book):
    """Return the format of a book."""
    check_book(book)
    zones, limits = book
    lines = ["zones " + zones] + [_format_limit(limit) for limit in limits]
    return _format_lines(lines)


def parse_book(text):
    """Return the book whose format is a text."""
    _check_text(text)
    lines = text.split("\n")
    candidate = (lines[0].rpartition(" ")[2], tuple([_limit_told(line) for line in lines[1:-1]]))
    # The reading is loose; it is right if just this text is the format of what was read.
    if not is_book(candidate) or format_book(candidate) != text:
        raise ParseError("not the format of a book")
    return candidate


def format_calendar(book, calendar):
    """Return the format of a calendar."""
    check_calendar(book, calendar)
    return _format_lines([calendar[first:first + WEEK_DAYS] for first in range(0, len(calendar), WEEK_DAYS)])


def parse_calendar(book, text):
    """Return the calendar of a book whose format is a text."""
    check_book(book)
    _check_text(text)
    candidate = text.replace("\n", "")
    if not is_calendar(book, candidate) or format_calendar(book, candidate) != text:
        raise ParseError("not the format of a calendar of the book")
    return candidate


def _check_text(text):
    """Raise ParseError if text is not a string."""
    if not isinstance(text, str):
        raise ParseError("not a string")


def _format_lines(lines):
    """Return a text of lines that all end with a newline."""
    return "".join([line + "\n" for line in lines])


def _format_limit(limit):
    """Return the line of a limit."""
    kind, zones, count = limit[:3]
    line = f"{kind} {zones} at {count}"
    if len(limit) == 3:
        return line
    return line + f" in {limit[3]}"


def _limit_told(line):
    """Return the limit that a line seems to tell; it need not be one."""
    words = line.split(" ")
    return tuple(words[:2] + [_number_told(word) for word in words[3::2]])


def _number_told(word):
    """Return the integer that a word of one digit tells, or None for other words."""
    if len(word) == 1 and word in DIGITS:
        return int(word)
    return None
