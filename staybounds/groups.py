"""Days on which all members of a group can be in their zones."""

from staybounds.books import are_zones, is_between, is_book, is_calendar
from staybounds.errors import InvalidGroup, InvalidNumber, TooLarge
from staybounds.judging import is_allowed, past_of
from staybounds.walks import steps_of, walks_from

MOST_MEMBERS = 2
MOST_PLAN_DAYS = 20
MOST_PLACES = 2000


def is_group(candidate):
    """Return whether candidate is a group."""
    if not isinstance(candidate, tuple) or not 1 <= len(candidate) <= MOST_MEMBERS:
        return False
    return all([_is_member(member) for member in candidate])


def most_common(group, days):
    """Return the greatest number of common days among so many next days."""
    return days - _best_plan(group, days)[0]


def common_plan(group, days):
    """Return the first of the tuples of calendars with the greatest number of common days."""
    return _best_plan(group, days)[1]


def first_common(group):
    """Return the number of the first of the next days that can be a common day, or None."""
    _check_group(group)
    steps = _steps_of_group(group)
    walks = walks_from(steps, _present(group))
    for place in walks:
        if any([_is_common(group, days) for days, after in steps[place]]):
            # A walk of the group has a letter of each member for each day.
            return len(walks[place]) // len(group)
    return None


def _is_member(candidate):
    """Return whether candidate is a member of a group: (book, calendar, zones)."""
    if not isinstance(candidate, tuple) or len(candidate) != 3:
        return False
    book, calendar, zones = candidate
    if not is_book(book) or not is_calendar(book, calendar):
        return False
    return is_allowed(book, calendar) and are_zones(book, zones)


def _check_group(group):
    """Raise InvalidGroup if group is not a group."""
    if not is_group(group):
        raise InvalidGroup("not a tuple of one or two members with allowed calendars")


def _present(group):
    """Return the place of a group at the present: the tuple of the members' pasts."""
    return tuple([past_of(book, calendar) for book, calendar, zones in group])


def _steps_of_group(group):
    """Return the steps between all places that a group can come to, or raise TooLarge.

    The days of a step are a string with a letter for each member.
    """
    own_steps = [steps_of(book) for book, calendar, zones in group]
    # All tuples of pasts result: the members can stay away until nothing else is
    # seen, and each can wait so until it is time for the days of the own past.
    places = [()]
    for own in own_steps:
        places = [place + (past,) for place in places for past in own]
    if len(places) > MOST_PLACES:
        raise TooLarge("more than 2000 tuples of pasts")
    return {place: _joined([own[past] for own, past in zip(own_steps, place)]) for place in places}


def _joined(rows):
    """Return the steps of the group that result from one list of steps for each member."""
    joined = [("", ())]
    for row in rows:
        joined = [(days + day, place + (after,)) for days, place in joined for day, after in row]
    return joined


def _is_common(group, days):
    """Return whether a day on which the members have these letters is a common day."""
    return all([day in zones for day, (book, calendar, zones) in zip(days, group)])


def _best_plan(group, days):
    """Return the tuple of how many days are not common, at least, and of the first calendars for that.

    Raises InvalidGroup, InvalidNumber, and TooLarge.
    """
    _check_group(group)
    if not is_between(days, 0, MOST_PLAN_DAYS):
        raise InvalidNumber("not a number of days from 0 to 20")
    steps = _steps_of_group(group)
    # The best plan from each place on. The least tuple is the best one, and
    # stays so when the same days are put before all that begin with them.
    plans = {place: (0, ("",) * len(group)) for place in steps}
    for _ in range(days):
        plans = {
            place: min([_plan_with(group, letters, plans[after]) for letters, after in steps[place]])
            for place in steps
        }
    return plans[_present(group)]


def _plan_with(group, letters, plan):
    """Return a plan with one more day before it."""
    missed, calendars = plan
    longer = tuple([letter + calendar for letter, calendar in zip(letters, calendars)])
    return (missed + int(not _is_common(group, letters)), longer)
