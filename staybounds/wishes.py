"""Wishes that recur: how long they can be kept behind a calendar."""

from staybounds.books import are_zones, check_book, is_between, is_calendar, is_pair
from staybounds.cycles import greatest_cycle
from staybounds.errors import InvalidDays, InvalidWishes
from staybounds.judging import check_allowed, past_of
from staybounds.shares import check_weights, worth_of_days
from staybounds.walks import days_left, steps_of, walks_from

MOST_WISHES = 3
MOST_PERIOD = 5


def are_wishes(book, candidate):
    """Return whether candidate is wishes of a book."""
    check_book(book)
    if not isinstance(candidate, tuple) or len(candidate) > MOST_WISHES:
        return False
    return all([_is_wish(book, wish) for wish in candidate])


def keeps(book, calendar, days, wishes):
    """Return whether days behind an allowed calendar break no limit and keep wishes."""
    check_allowed(book, calendar)
    if not is_calendar(book, days):
        raise InvalidDays("not a calendar of the book")
    _check_wishes(book, wishes)
    steps = _keeping_steps(book, wishes)
    place = _present(book, calendar)
    for day in days:
        places = [after for kept, after in steps[place] if kept == day]
        if not places:
            return False
        place = places[0]
    return True


def days_kept(book, calendar, wishes):
    """Return the greatest number of days that keep wishes, or None if there is none."""
    _check(book, calendar, wishes)
    return days_left(_keeping_steps(book, wishes)).get(_present(book, calendar))


def longest_kept(book, calendar, wishes):
    """Return the first of the longest strings of days that keep wishes, or None."""
    _check(book, calendar, wishes)
    steps = _keeping_steps(book, wishes)
    left = days_left(steps)
    place = _present(book, calendar)
    if place not in left:
        return None
    days = ""
    while left[place] > 0:
        longest = [step for step in steps[place] if left[step[1]] == left[place] - 1]
        day, place = longest[0]
        days = days + day
    return days


def can_keep(book, calendar, wishes):
    """Return whether wishes can be kept for ever behind a calendar."""
    return days_kept(book, calendar, wishes) is None


def keeping_loop(book, calendar, wishes):
    """Return a tuple (begin, loop) of days that keep wishes for ever, or None."""
    _check(book, calendar, wishes)
    steps = _keeping_steps(book, wishes)
    left = days_left(steps)
    place = _present(book, calendar)
    if place in left:
        return None
    days = ""
    visits = {}
    while place not in visits:
        visits[place] = len(days)
        lasting = [step for step in steps[place] if step[1] not in left]
        day, place = lasting[0]
        days = days + day
    return (days[:visits[place]], days[visits[place]:])


def keeping_share(book, calendar, wishes, weights):
    """Return the greatest share of what keeps wishes for ever, as a fraction, or None."""
    _check(book, calendar, wishes)
    check_weights(book, weights)
    steps = _keeping_steps(book, wishes)
    reached = walks_from(steps, _present(book, calendar))
    found = greatest_cycle({place: steps[place] for place in reached}, worth_of_days(book, weights))
    if found is None:
        return None
    return found[0]


def dead_day(book, calendar, wishes):
    """Return the least number of days behind which wishes can not be kept for ever, or None."""
    _check(book, calendar, wishes)
    left = days_left(_keeping_steps(book, wishes))
    for many in range(len(calendar) + 1):
        if _present(book, calendar[:many]) in left:
            return many
    return None


def _check(book, calendar, wishes):
    """Raise InvalidBook, InvalidCalendar, Broken or InvalidWishes if one of them applies."""
    check_allowed(book, calendar)
    _check_wishes(book, wishes)


def _check_wishes(book, wishes):
    """Raise InvalidWishes if wishes are not wishes of the book."""
    if not are_wishes(book, wishes):
        raise InvalidWishes("not wishes of the book")


def _is_wish(book, candidate):
    """Return whether candidate is a wish for days of a book."""
    if not is_pair(candidate):
        return False
    zones, period = candidate
    return are_zones(book, zones) and is_between(period, 1, MOST_PERIOD)


def _present(book, calendar):
    """Return the place at the end of a calendar, where no day has passed since."""
    return (past_of(book, calendar), 0)


def _keeping_steps(book, wishes):
    """Return the steps with which wishes are kept, between places (past, since).

    Since is the number of days after the present, at most four, for with the
    next day even the longest period can be complete then.
    """
    allowed = steps_of(book)
    steps = {}
    for past in allowed:
        for since in range(MOST_PERIOD):
            many = min(since + 1, MOST_PERIOD - 1)
            steps[(past, since)] = [
                (day, (after, many))
                for day, after in allowed[past]
                if _are_kept(wishes, past + day, since + 1)
            ]
    return steps


def _are_kept(wishes, days, since):
    """Return whether no period without a wished day is complete on the last of some days."""
    return all([
        since < period or any([day in zones for day in days[-period:]])
        for zones, period in wishes
    ])
