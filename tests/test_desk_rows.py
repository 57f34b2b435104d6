"""16.1 to 16.4: long drawn rows of calls, at the desk and at a plain model of it."""

import copy
import random
import unittest

from staybounds.desk import Desk
from staybounds.errors import StayError
from tests.forms import spoiled
from tests.modelling import Model
from tests.plainly import with_kinds
from tests.samples import ANYTHING, limits_of

NAMES = ["a", "ann", "bob", "cy", "dee", "abcdef", "zz", "eve"]
WRONG_NAMES = ["", "abcdefg", "Ann", "a1", "a b", None, 5, True, ["ann"], ("ann",)]
EDITIONS = ["one", "two", "three", "four", "ann"]


def drawn_name(draw, names):
    return draw.choice(WRONG_NAMES) if draw.random() < 0.1 else draw.choice(names)


def drawn_entries(draw, model):
    names = model.do_names()
    zones = model.state["zones"]
    chosen = [name for name in names if draw.random() < 0.6]
    entries = [(name, draw.choice(zones)) for name in chosen]
    if draw.random() < 0.08:
        return draw.choice([None, list(entries), tuple(entries + [("nobody", "a")]), tuple(entries + entries[:1]),
                            tuple(entries[::-1]), tuple(entries + [("zzz", "c")]), (("ann", "ab"),), ("ann", "a"),
                            (("ann", None),), ((["ann"], "a"),)])
    return tuple(entries)


def drawn_limits(draw, model):
    if draw.random() < 0.2:
        return draw.choice([None, [], (("row", "a", 6),), (("row", "ab", 2),), (("row", "a", 2),) * 5, model.state["limits"]])
    limits = limits_of(model.state["zones"])
    return tuple(draw.choice(limits) for _ in range(draw.randint(0, 4)))


def drawn_call(draw, model, weights):
    """A call as a tuple of the name of a method and its arguments."""
    name = draw.choices(list(weights), list(weights.values()))[0]
    if name in ("add", "remove", "calendar", "may"):
        return (name, drawn_name(draw, NAMES))
    if name in ("save", "load"):
        return (name, drawn_name(draw, EDITIONS))
    if name == "day":
        return (name, drawn_entries(draw, model))
    if name == "set_limits":
        return (name, drawn_limits(draw, model))
    return (name,)


MIXED = {"add": 8, "remove": 3, "day": 20, "names": 1, "calendar": 2, "may": 4, "set_limits": 4, "book": 1, "broken": 2,
         "save": 3, "editions": 1, "load": 4, "undo": 10, "redo": 8, "copy": 2}
MANY_DAYS = {"add": 6, "remove": 1, "day": 60, "may": 4, "set_limits": 1, "save": 1, "load": 1, "undo": 2, "redo": 2}
BACK_AND_FORTH = {"add": 4, "remove": 3, "day": 6, "set_limits": 3, "save": 2, "load": 3, "undo": 16, "redo": 14, "copy": 2}


class RowsTest(unittest.TestCase):
    def outcome(self, call):
        try:
            return ("answer", with_kinds(call()))
        except StayError as error:
            return ("error", type(error))

    def compare(self, desk, model, row):
        shown = (desk.names(), [desk.calendar(name) for name in desk.names()], desk.book(), len(desk), desk.editions())
        calendars = [model.do_calendar(name) for name in model.do_names()]
        wanted = (model.do_names(), calendars, model.do_book(), model.state["days"], model.do_editions())
        self.assertEqual(shown, wanted, row)

    def perform(self, zones, limits, many, weights, seed):
        draw = random.Random(seed)
        desk, model = Desk((zones, limits)), Model(zones, limits)
        others = []
        row = []
        for _ in range(many):
            name, *arguments = drawn_call(draw, model, weights)
            row.append((name, *arguments))
            if name == "copy":
                # Go on with the copy or with the first one, and keep the other.
                pair = (desk.copy(), model.do_copy())
                if draw.random() < 0.5:
                    (desk, model), pair = pair, (desk, model)
                others.append(pair)
                if len(others) > 3:
                    (desk, model), others[0] = others[0], (desk, model)
                continue
            passed = copy.deepcopy(arguments)
            found = self.outcome(lambda: getattr(desk, name)(*passed))
            wanted = self.outcome(lambda: model.call(name, *arguments))
            self.assertEqual(found, wanted, row)
            self.assertEqual(with_kinds(passed), with_kinds(arguments))
            self.compare(desk, model, row)
        self.assertEqual(desk.broken(), model.do_broken(), row)
        for pair in others:
            self.compare(*pair, row)
            self.assertIs(pair[0] == desk, pair[1].state == model.state)

    def test_any_argument(self):
        calls = [("add", "ann"), ("add", "dee"), ("remove", "ann"), ("day", (("ann", "a"), ("bob", "b"))), ("day", ()),
                 ("calendar", "ann"), ("may", "bob"), ("set_limits", (("row", "a", 1), ("most", "b", 2, 4))),
                 ("save", "two"), ("load", "one")]
        desk, model = Desk(("ab", (("row", "ab", 2),))), Model("ab", (("row", "ab", 2),))
        for name, *arguments in [("add", "ann"), ("add", "bob"), ("day", (("ann", "a"),)), ("save", "one"), ("day", ()),
                                 ("add", "cy"), ("undo",)]:
            getattr(desk, name)(*arguments)
            model.call(name, *arguments)
        for name, right in calls:
            for value in [right] + ANYTHING + list(spoiled(right)):
                case = (name, value)
                one, other = desk.copy(), model.do_copy()
                passed = copy.deepcopy(value)
                found = self.outcome(lambda: getattr(one, name)(passed))
                self.assertEqual(found, self.outcome(lambda: other.call(name, value)), case)
                self.assertEqual(with_kinds(passed), with_kinds(value))
                self.compare(one, other, case)
                # What was undone can be redone after an error, and not after a change.
                self.assertEqual(self.outcome(one.redo), self.outcome(lambda: other.call("redo")), case)
                self.compare(one, other, case)

    def test_mixed_calls(self):
        for seed in range(60):
            limits = random.Random(seed).choice(limits_of("a"))
            self.perform("a", (limits,), 120, MIXED, seed)
        for seed in range(60, 120):
            draw = random.Random(seed)
            limits = tuple(draw.choice(limits_of("ab")) for _ in range(draw.randint(0, 3)))
            self.perform("ab", limits, 120, MIXED, seed)

    def test_many_days(self):
        for seed in range(200, 215):
            self.perform("ab", (("row", "ab", 2), ("gap", "a", 2)), 110, MANY_DAYS, seed)
            self.perform("a", (("most", "a", 2, 4),), 110, MANY_DAYS, seed)

    def test_undo_and_redo(self):
        for seed in range(300, 360):
            self.perform("ab", (("most", "b", 2, 4), ("starts", "a", 1, 3)), 150, BACK_AND_FORTH, seed)


if __name__ == "__main__":
    unittest.main()
