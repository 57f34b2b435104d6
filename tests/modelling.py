"""A plain model of the desk (16.1 to 16.4): lists and dicts, and calls that are really performed again."""

import copy
import re

from staybounds import errors
from tests.plainly import plain_breaches, plain_first_broken, plain_is_book

CHANGES = ["add", "remove", "day", "set_limits", "load"]


class Model:
    def __init__(self, zones, limits):
        self.state = {"zones": zones, "limits": limits, "days": 0, "calendars": {}}
        self.saved = {}
        self.history = []
        self.undone = []

    def call(self, name, *arguments):
        """Perform a call and return what it returns; an error changes nothing."""
        method = getattr(self, "do_" + name)
        if name not in CHANGES:
            return method(*arguments)
        before = copy.deepcopy(self.state)
        answer = method(*arguments)
        self.history.append((before, name, arguments))
        self.undone = []
        return answer

    def book_now(self):
        return (self.state["zones"], self.state["limits"])

    def check_known(self, name):
        if type(name) is not str or name not in self.state["calendars"]:
            raise errors.NoTraveller

    def do_add(self, name):
        check_name(name)
        if name in self.state["calendars"]:
            raise errors.Exists
        if len(self.state["calendars"]) >= 5:
            raise errors.Full
        self.state["calendars"][name] = ["."] * self.state["days"]

    def do_remove(self, name):
        self.check_known(name)
        return "".join(self.state["calendars"].pop(name))

    def are_entries(self, entries):
        if type(entries) is not tuple or not all(type(entry) is tuple and len(entry) == 2 for entry in entries):
            return False
        for name, zone in entries:
            if type(name) is not str or name not in self.state["calendars"]:
                return False
            if type(zone) is not str or zone not in list(self.state["zones"]):
                return False
        names = [name for name, zone in entries]
        return list(entries) == sorted(entries) and len(names) == len(set(names))

    def do_day(self, entries):
        if not self.are_entries(entries):
            raise errors.InvalidEntries
        if self.state["days"] >= 60:
            raise errors.TooLong
        for name in self.state["calendars"]:
            self.state["calendars"][name].append(dict(entries).get(name, "."))
        self.state["days"] += 1
        last = self.state["days"] - 1
        found = []
        for name, days in self.state["calendars"].items():
            if [day for day, _, _ in plain_breaches(self.book_now(), "".join(days)) if day == last]:
                found.append(name)
        return sorted(found)

    def do_names(self):
        return sorted(self.state["calendars"])

    def do_calendar(self, name):
        self.check_known(name)
        return "".join(self.state["calendars"][name])

    def do_may(self, name):
        calendar = self.do_calendar(name)
        next_day = len(calendar)
        return [
            day for day in "." + self.state["zones"]
            if next_day not in [broken for broken, _, _ in plain_breaches(self.book_now(), calendar + day)]
        ]

    def do_set_limits(self, limits):
        if not plain_is_book((self.state["zones"], limits)):
            raise errors.InvalidLimits
        self.state["limits"] = limits

    def do_book(self):
        return self.book_now()

    def do_broken(self):
        return [name for name in self.do_names() if plain_first_broken(self.book_now(), self.do_calendar(name)) is not None]

    def do_save(self, name):
        check_name(name)
        if name in self.saved:
            raise errors.Taken
        self.saved[name] = copy.deepcopy(self.state)

    def do_editions(self):
        return sorted(self.saved)

    def do_load(self, name):
        if type(name) is not str or name not in self.saved:
            raise errors.NoEdition
        self.state = copy.deepcopy(self.saved[name])

    def do_undo(self):
        if not self.history:
            raise errors.NothingToUndo
        before, name, arguments = self.history.pop()
        self.state = copy.deepcopy(before)
        self.undone.append((name, arguments))

    def do_redo(self):
        if not self.undone:
            raise errors.NothingToUndo
        rest = self.undone[:-1]
        name, arguments = self.undone[-1]
        self.call(name, *arguments)
        self.undone = rest

    def do_copy(self):
        return copy.deepcopy(self)


def check_name(name):
    if type(name) is not str or re.fullmatch("[a-z]{1,6}", name) is None:
        raise errors.InvalidName
