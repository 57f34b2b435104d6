"""A desk of travellers: their calendars day by day, with editions, undo and redo."""

from staybounds.books import AWAY, MOST_DAYS, check_book, is_book, is_pair, is_text_of
from staybounds.breaches import broken_days
from staybounds.errors import (Exists, Full, InvalidEntries, InvalidLimits, InvalidName, NoEdition, NothingToUndo,
                               NoTraveller, Taken, TooLong)
from staybounds.judging import days_behind, is_allowed, past_of

MOST_TRAVELLERS = 5
MOST_LETTERS = 6
LETTERS = "abcdefghijklmnopqrstuvwxyz"


class Desk:
    """A desk for a book of rules."""

    def __init__(self, book):
        check_book(book)
        # What is present is replaced by each change and never modified, so that
        # history, editions and copies can share it: a tuple of the book, a day
        # away for each day that has passed, and the ascending names with calendars.
        self._present = (book, "", ())
        self._undoable = []
        self._redoable = []
        self._editions = {}

    def __eq__(self, other):
        return isinstance(other, Desk) and self._present == other._present

    def __len__(self):
        return len(self._present[1])

    def add(self, name):
        """Add a traveller, who has been away on all days before."""
        _check_name(name)
        book, passed, travellers = self._present
        if name in self.names():
            raise Exists("there is a traveller with the name")
        if len(travellers) == MOST_TRAVELLERS:
            raise Full("there are 5 travellers")
        self._change(book, passed, tuple(sorted([*travellers, (name, passed)])))

    def remove(self, name):
        """Take a traveller out and return the calendar."""
        taken = self.calendar(name)
        book, passed, travellers = self._present
        self._change(book, passed, tuple([traveller for traveller in travellers if traveller[0] != name]))
        return taken

    def day(self, entries):
        """Let a day pass and return the ascending list of the names of those who break a limit on it."""
        if not self._are_entries(entries):
            raise InvalidEntries("not an ascending tuple of travellers and zones")
        book, passed, travellers = self._present
        if len(passed) == MOST_DAYS:
            raise TooLong("60 days have passed")
        zones = dict(entries)
        later = tuple([(name, calendar + zones.get(name, AWAY)) for name, calendar in travellers])
        self._change(book, passed + AWAY, later)
        return [name for name, calendar in later if len(passed) in broken_days(book, calendar)]

    def names(self):
        """Return the ascending list of the names of the travellers."""
        return [name for name, calendar in self._present[2]]

    def calendar(self, name):
        """Return the calendar of a traveller since day 0."""
        if name not in self.names():
            raise NoTraveller("there is no traveller with the name")
        return dict(self._present[2])[name]

    def may(self, name):
        """Return the ascending list of the days with which a traveller would break no limit on the next day."""
        calendar = self.calendar(name)
        book = self._present[0]
        return days_behind(book, past_of(book, calendar))

    def set_limits(self, limits):
        """Change the limits of the book for all days."""
        book, passed, travellers = self._present
        changed = (book[0], limits)
        if not is_book(changed):
            raise InvalidLimits("not limits of a book with the zones")
        self._change(changed, passed, travellers)

    def book(self):
        """Return the book."""
        return self._present[0]

    def broken(self):
        """Return the ascending list of the names of those whose calendars are not allowed."""
        book, passed, travellers = self._present
        return [name for name, calendar in travellers if not is_allowed(book, calendar)]

    def save(self, name):
        """Keep the book, the number of days and all calendars as an edition."""
        _check_name(name)
        if name in self._editions:
            raise Taken("there is an edition with the name")
        self._editions[name] = self._present

    def editions(self):
        """Return the ascending list of the names of the editions."""
        return sorted(self._editions)

    def load(self, name):
        """Make present what an edition keeps."""
        if name not in self.editions():
            raise NoEdition("there is no edition with the name")
        book, passed, travellers = self._editions[name]
        self._change(book, passed, travellers)

    def undo(self):
        """Revert the last change that was not undone."""
        if not self._undoable:
            raise NothingToUndo("there is nothing to undo")
        self._redoable.append(self._present)
        self._present = self._undoable.pop()

    def redo(self):
        """Perform the change again that was undone last."""
        if not self._redoable:
            raise NothingToUndo("there is nothing to redo")
        self._undoable.append(self._present)
        self._present = self._redoable.pop()

    def copy(self):
        """Return an independent desk with the same book, calendars, editions and history."""
        other = Desk(self.book())
        other._present = self._present
        other._undoable = list(self._undoable)
        other._redoable = list(self._redoable)
        other._editions = dict(self._editions)
        return other

    def _change(self, book, passed, travellers):
        """Replace what is present, so that it can be undone, and nothing be redone."""
        self._undoable.append(self._present)
        self._redoable = []
        self._present = (book, passed, travellers)

    def _are_entries(self, candidate):
        """Return whether candidate is the entries of a day: who of the travellers is in which zone."""
        if not isinstance(candidate, tuple) or not all([is_pair(entry) for entry in candidate]):
            return False
        known = self.names()
        zones = tuple(self._present[0][0])
        if not all([name in known and zone in zones for name, zone in candidate]):
            return False
        return all([one[0] < other[0] for one, other in zip(candidate, candidate[1:])])


def _check_name(name):
    """Raise InvalidName if name is not a string of 1 to 6 letters a to z."""
    if not is_text_of(LETTERS, MOST_LETTERS, name) or name == "":
        raise InvalidName("not 1 to 6 letters a to z")
