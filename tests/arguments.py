"""Each function of the interface with right arguments, and the errors of its section in their order."""

from staybounds import (alike, asking, books, breaches, errors, formats, groups, judging, naive, numbering, pasts, shares,
                        sightings, sure, tuning, wishes)
from tests.forms import (is_book_text, is_calendar_text, is_fraction, is_number, is_past, is_plain_days, is_plain_loop,
                         is_plain_sighting, is_plain_wishes, is_weights, is_zones)
from tests.grouping import is_plain_group
from tests.listing import walked_counts, walked_pasts
from tests.plainly import plain_first_broken, plain_is_book, plain_is_calendar
from tests.samples import SHORT, TWO


def book_at(at):
    return (errors.InvalidBook, lambda args: plain_is_book(args[at]))


def zoned(error, at, form):
    """The error for an argument whose form depends on the zones of the first one, a book."""
    return (error, lambda args: form(args[0][0], args[at]))


BOOK = book_at(0)
CALENDAR = zoned(errors.InvalidCalendar, 1, plain_is_calendar)
BROKEN = (errors.Broken, lambda args: plain_first_broken(args[0], args[1]) is None)
SIGHTING = zoned(errors.InvalidSighting, 1, is_plain_sighting)
OTHER_ZONES = (errors.OtherZones, lambda args: args[0][0] == args[1][0])
WEIGHTS = zoned(errors.InvalidWeights, 1, is_weights)
WISHES = zoned(errors.InvalidWishes, 2, is_plain_wishes)


def zones_at(at):
    return zoned(errors.InvalidZones, at, is_zones)


def limit_number_at(at):
    return (errors.InvalidNumber, lambda args: is_number(args[at], 0, len(args[0][1]) - 1))


def is_small(group):
    """Whether at most 2000 tuples of pasts result."""
    tuples = 1
    for book, calendar, zones in group:
        tuples *= len(walked_pasts(book))
    return tuples <= 2000


TOO_MANY = (errors.TooMany, lambda args: len([mark for mark in args[1] if mark in "p?"]) <= 8)
GROUP = (errors.InvalidGroup, lambda args: is_plain_group(args[0]))
TOO_LARGE = (errors.TooLarge, lambda args: is_small(args[0]))


def days_at(at, most):
    return (errors.InvalidNumber, lambda args: is_number(args[at], 0, most))


def has_number(book, days, number):
    return is_number(number, 0, sum(walked_counts(book, days).values()) - 1)


PLANNING = [GROUP, days_at(1, 20), TOO_LARGE]
PAIR = ((SHORT, "a", "a"), (("a", (("row", "a", 1),)), "", "a"))

KEPT = (SHORT, "a..", (("a", 3),))
KEEPING = [BOOK, CALENDAR, BROKEN, WISHES]

# (function, right arguments, [(error, whether the arguments are free of it), ..])
SPECS = [
    (books.is_limit, (("most", "ab", 2, 4),), []),
    (books.is_book, (TWO,), []),
    (books.is_calendar, (TWO, "ab."), [BOOK]),
    (books.days_in, (TWO, "ab.", "ab"), [BOOK, CALENDAR, zones_at(2)]),
    (books.stays, (SHORT, "a.a", "a"), [BOOK, CALENDAR, zones_at(2)]),
    (judging.is_allowed, (SHORT, "a.a"), [BOOK, CALENDAR]),
    (judging.first_broken, (SHORT, "aa.a"), [BOOK, CALENDAR]),
    (judging.past_of, (TWO, "ab."), [BOOK, CALENDAR]),
    (judging.next_days, (SHORT, "aa"), [BOOK, CALENDAR, BROKEN]),
    (pasts.all_pasts, (SHORT,), [BOOK]),
    (pasts.calendar_to, (SHORT, "..a.a"), [BOOK, zoned(errors.InvalidPast, 1, is_past)]),
    (shares.is_loop, (SHORT, ("a", "..a")), [BOOK]),
    (shares.share_of, (SHORT, (1,), ("a", "..a")),
     [BOOK, WEIGHTS, (errors.InvalidLoop, lambda args: is_plain_loop(args[0], args[2]))]),
    (shares.greatest_share, (SHORT, (3,)), [BOOK, WEIGHTS]),
    (shares.best_loop, (SHORT, (3,)), [BOOK, WEIGHTS]),
    (shares.is_ceiling, (("a", (("row", "a", 0),)), (1,), (0, 1), [(".....", 0)]),
     [BOOK, WEIGHTS, (errors.InvalidFraction, lambda args: is_fraction(args[2]))]),
    (shares.ceiling, (SHORT, (3,)), [BOOK, WEIGHTS]),
    (alike.parting_calendar, (SHORT, ("a", (("row", "a", 2),))), [BOOK, book_at(1), OTHER_ZONES]),
    (alike.are_alike, (SHORT, SHORT), [BOOK, book_at(1), OTHER_ZONES]),
    (alike.is_stricter, (SHORT, ("a", ())), [BOOK, book_at(1), OTHER_ZONES]),
    (alike.idle_limits, (SHORT,), [BOOK]),
    (tuning.equal_counts, (SHORT, 0), [BOOK, limit_number_at(1)]),
    (tuning.nearest_counts, (SHORT, 0), [BOOK, limit_number_at(1)]),
    (tuning.least_most, (SHORT, "a", 6),
     [BOOK, zones_at(1), (errors.InvalidNumber, lambda args: is_number(args[2], 1, 6))]),
    (tuning.longest_stay, (SHORT, "a"), [BOOK, zones_at(1)]),
    (wishes.are_wishes, (SHORT, (("a", 3), ("a", 1))), [BOOK]),
    (wishes.keeps, (SHORT, "aa", "..a", (("a", 3),)),
     [BOOK, CALENDAR, BROKEN, zoned(errors.InvalidDays, 2, plain_is_calendar),
      zoned(errors.InvalidWishes, 3, is_plain_wishes)]),
    (wishes.days_kept, KEPT, KEEPING),
    (wishes.longest_kept, KEPT, KEEPING),
    (wishes.can_keep, KEPT, KEEPING),
    (wishes.keeping_loop, KEPT, KEEPING),
    (wishes.keeping_share, KEPT + ((3,),), KEEPING + [zoned(errors.InvalidWeights, 3, is_weights)]),
    (wishes.dead_day, KEPT, KEEPING),
    (sightings.is_sighting, (SHORT, "a?p."), [BOOK]),
    (sightings.fits, (SHORT, "a?p.", "aaa."),
     [BOOK, SIGHTING, zoned(errors.InvalidCalendar, 2, plain_is_calendar)]),
    (sightings.verdict, (SHORT, "a?p."), [BOOK, SIGHTING]),
    (sightings.how_many, (SHORT, "a?p."), [BOOK, SIGHTING]),
    (sightings.first_allowed, (SHORT, "a?p."), [BOOK, SIGHTING]),
    (sightings.first_forbidden, (SHORT, "a?p."), [BOOK, SIGHTING]),
    (sure.sure_days, (SHORT, "a?p."), [BOOK, SIGHTING]),
    (sure.least_wrong, (SHORT, "a?p."), [BOOK, SIGHTING]),
    (sure.corrected, (SHORT, "a?p."), [BOOK, SIGHTING]),
    (sure.can_be_one, (SHORT, "a?p.", "..a?"),
     [BOOK, SIGHTING, zoned(errors.InvalidSighting, 2, is_plain_sighting),
      (errors.OtherLength, lambda args: len(args[1]) == len(args[2]))]),
    (asking.settles, (SHORT, "a?p.", (0, 1)),
     [BOOK, SIGHTING, (errors.InvalidDays, lambda args: is_plain_days(args[1], args[2])), TOO_MANY]),
    (asking.fewest_asked, (SHORT, "a?p."), [BOOK, SIGHTING, TOO_MANY]),
    (asking.best_day, (SHORT, "a?p."), [BOOK, SIGHTING]),
    (breaches.breaches, (SHORT, "aa.a"), [BOOK, CALENDAR]),
    (breaches.broken_days, (SHORT, "aa.a"), [BOOK, CALENDAR]),
    (breaches.breaches_of, (SHORT, "aa.a", 0), [BOOK, CALENDAR, limit_number_at(2)]),
    (breaches.fewest_away, (SHORT, "aa.a"), [BOOK, CALENDAR]),
    (breaches.thinned, (SHORT, "aa.a"), [BOOK, CALENDAR]),
    (groups.is_group, (PAIR,), []),
    (groups.most_common, (PAIR, 2), PLANNING),
    (groups.common_plan, (PAIR, 2), PLANNING),
    (groups.first_common, (PAIR,), [GROUP, TOO_LARGE]),
    (numbering.count_allowed, (SHORT, 4), [BOOK, days_at(1, 60)]),
    (numbering.count_with, (SHORT, 4, 2), [BOOK, days_at(1, 60), days_at(2, 60)]),
    (numbering.number_of, (SHORT, "a.a"), [BOOK, CALENDAR, BROKEN]),
    (numbering.calendar_at, (SHORT, 4, 3),
     [BOOK, days_at(1, 60), (errors.InvalidNumber, lambda args: has_number(*args))]),
    (formats.format_book, (SHORT,), [BOOK]),
    (formats.parse_book, ("zones a\nmost a at 2 in 4\n",), [(errors.ParseError, lambda args: is_book_text(args[0]))]),
    (formats.format_calendar, (SHORT, "a.......a"), [BOOK, CALENDAR]),
    (formats.parse_calendar, (SHORT, "a......\na\n"), [BOOK, zoned(errors.ParseError, 1, is_calendar_text)]),
    (naive.all_calendars, (SHORT, 3), [BOOK, days_at(1, 6)]),
    (naive.naive_allowed, (SHORT, "a.a"), [BOOK, CALENDAR]),
    (naive.naive_count, (SHORT, 3), [BOOK, days_at(1, 6)]),
    (naive.naive_parting, (SHORT, ("a", (("row", "a", 2),)), 3), [BOOK, book_at(1), OTHER_ZONES, days_at(2, 6)]),
]

# Arguments for which the functions that return lists do so.
LISTS = [
    (books.days_in, (TWO, "ab.a", "ab")),
    (books.days_in, (TWO, "...", "ab")),
    (books.stays, (TWO, "ab.a", "ab")),
    (books.stays, (TWO, "", "a")),
    (judging.next_days, (TWO, "b")),
    (judging.next_days, (SHORT, "aa")),
    (pasts.all_pasts, (TWO,)),
    (shares.ceiling, (TWO, (1, 2))),
    (alike.idle_limits, (SHORT,)),
    (alike.idle_limits, (("a", (("row", "a", 2), ("row", "a", 2))),)),
    (tuning.equal_counts, (TWO, 1)),
    (breaches.breaches, (SHORT, "aa.aaa")),
    (breaches.breaches, (SHORT, "")),
    (breaches.broken_days, (SHORT, "aa.aaa")),
    (breaches.broken_days, (SHORT, "a")),
    (breaches.breaches_of, (TWO, "aaaa.a", 1)),
    (breaches.breaches_of, (TWO, "a", 0)),
    (naive.all_calendars, (TWO, 2)),
    (naive.all_calendars, (TWO, 0)),
]


def wanted_error(checks, arguments):
    """The error that a call must raise, or None."""
    for error, is_free in checks:
        if not is_free(arguments):
            return error
    return None
