"""The greatest share of days that can be spent in the zones for ever."""

from math import gcd

from staybounds.books import AWAY, check_book, day_letters, is_between, is_pair, is_text_of
from staybounds.cycles import ceiling_numbers, greatest_cycle, mean_worth
from staybounds.errors import InvalidFraction, InvalidLoop, InvalidWeights
from staybounds.judging import FIRST_PAST, PAST_DAYS, days_behind, limit_broken
from staybounds.walks import next_past, steps_of, walks_from

MOST_WEIGHT = 9
MOST_LOOP_DAYS = 300
MOST_IN_FRACTION = 1000
MOST_NUMBER = 10000000


def is_loop(book, candidate):
    """Return whether candidate is a loop of a book."""
    check_book(book)
    if not is_pair(candidate):
        return False
    letters = day_letters(book)
    if not all([is_text_of(letters, MOST_LOOP_DAYS, part) for part in candidate]):
        return False
    begin, loop = candidate
    # Behind the loop five times, the past shows nothing else, so the sixth time tells of all later ones.
    return loop != "" and _breaks_nothing(book, begin + loop * (PAST_DAYS + 1))


def share_of(book, weights, loop):
    """Return the share of a loop, as a fraction."""
    check_weights(book, weights)
    if not is_loop(book, loop):
        raise InvalidLoop("not a loop of the book")
    return mean_worth(loop[1], worth_of_days(book, weights))


def greatest_share(book, weights):
    """Return the greatest share of all loops, as a fraction."""
    check_weights(book, weights)
    return greatest_cycle(steps_of(book), worth_of_days(book, weights))[0]


def best_loop(book, weights):
    """Return a loop that has the greatest share."""
    check_weights(book, weights)
    steps = steps_of(book)
    past, days = greatest_cycle(steps, worth_of_days(book, weights))[1:]
    return (walks_from(steps, FIRST_PAST)[past], days)


def is_ceiling(book, weights, fraction, candidate):
    """Return whether candidate is a ceiling for a fraction."""
    check_weights(book, weights)
    if not _is_fraction(fraction):
        raise InvalidFraction("not a fraction within the bounds")
    if not _is_numbered(book, candidate):
        return False
    numbers = {past: number for past, number in candidate}
    worth = worth_of_days(book, weights)
    return FIRST_PAST in numbers and all([_is_below(book, worth, fraction, numbers, past) for past in numbers])


def ceiling(book, weights):
    """Return a ceiling for the greatest share, with the pasts of all allowed calendars."""
    share = greatest_share(book, weights)
    numbers = ceiling_numbers(steps_of(book), worth_of_days(book, weights), share)
    return [(past, numbers[past]) for past in sorted(numbers)]


def check_weights(book, weights):
    """Raise InvalidBook, or InvalidWeights if weights are not weights of the book."""
    check_book(book)
    if not _are_weights(book, weights):
        raise InvalidWeights("not one integer from 0 to 9 for each zone")


def worth_of_days(book, weights):
    """Return a dict from each letter of a day to its weight."""
    worth = {AWAY: 0}
    for zone, weight in zip(book[0], weights):
        worth[zone] = weight
    return worth


def _are_weights(book, candidate):
    """Return whether candidate is weights of a book."""
    if not isinstance(candidate, tuple) or len(candidate) != len(book[0]):
        return False
    return all([is_between(weight, 0, MOST_WEIGHT) for weight in candidate])


def _breaks_nothing(book, days):
    """Return whether days, of any number, break no limit."""
    past = FIRST_PAST
    for day in days:
        if limit_broken(book, past, day) is not None:
            return False
        past = next_past(past, day)
    return True


def _is_fraction(candidate):
    """Return whether candidate is a fraction within the bounds."""
    if not is_pair(candidate):
        return False
    above, below = candidate
    if not is_between(above, 0, MOST_IN_FRACTION) or not is_between(below, 1, MOST_IN_FRACTION):
        return False
    return gcd(above, below) == 1


def _is_numbered(book, candidate):
    """Return whether candidate is an ascending list of tuples of different pasts and numbers."""
    if not isinstance(candidate, list) or not all([_is_entry(book, entry) for entry in candidate]):
        return False
    return all([one[0] < other[0] for one, other in zip(candidate, candidate[1:])])


def _is_entry(book, candidate):
    """Return whether candidate is a tuple of a past and a number for it."""
    if not is_pair(candidate):
        return False
    past, number = candidate
    if not is_text_of(day_letters(book), PAST_DAYS, past) or len(past) != PAST_DAYS:
        return False
    return is_between(number, 0, MOST_NUMBER)


def _is_below(book, worth, fraction, numbers, past):
    """Return whether all days that can follow a past lead to numbers that are small enough."""
    above, below = fraction
    for day in days_behind(book, past):
        after = next_past(past, day)
        if after not in numbers or numbers[after] > numbers[past] + above - below * worth[day]:
            return False
    return True
