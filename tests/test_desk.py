"""16.1 to 16.4, written out."""

import unittest

from staybounds.desk import Desk
from staybounds.errors import (Exists, Full, InvalidBook, InvalidEntries, InvalidLimits, InvalidName, NoEdition,
                               NothingToUndo, NoTraveller, StayError, Taken, TooLong)
from tests.samples import ANYTHING, SHORT, TWO

WRONG_NAMES = ["", "abcdefg", "a" * 7, "Ann", "ANN", "a1", "1", "a b", " a", "a ", "a\n", "\n", "a-b", "a_b", ".", "?",
               "\u00e4", "\u0430", "\ud800", "a\x00", None, True, False, 0, 1, ["ann"], ("ann",), ["a", "n", "n"], (), []]


def desk_with(book, *names):
    desk = Desk(book)
    for name in names:
        desk.add(name)
    return desk


def days_of(desk, *days):
    """Let days pass, each told as letters of the travellers in their order."""
    return [desk.day(tuple((name, zone) for name, zone in zip(desk.names(), day) if zone != ".")) for day in days]


class Shown(unittest.TestCase):
    def show(self, desk):
        calendars = [(name, desk.calendar(name)) for name in desk.names()]
        return (desk.book(), len(desk), calendars, desk.broken(), desk.editions())

    def unchanged(self, desk, error, call):
        before = self.show(desk)
        with self.assertRaises(error):
            call()
        self.assertEqual(self.show(desk), before)


class TravellersTest(Shown):
    def test_example(self):
        desk = Desk(SHORT)
        self.assertIsNone(desk.add("ann"))
        self.assertEqual(desk.day((("ann", "a"),)), [])

    def test_a_new_desk(self):
        desk = Desk(TWO)
        self.assertEqual(self.show(desk), (TWO, 0, [], [], []))
        for wrong in ANYTHING + [["a", ()], ("b", ()), ("a", [])]:
            if wrong != ("a", ()):
                with self.assertRaises(InvalidBook):
                    Desk(wrong)

    def test_names(self):
        desk = desk_with(SHORT, "zoe", "a", "abcdef")
        self.assertEqual(desk.names(), ["a", "abcdef", "zoe"])
        for wrong in WRONG_NAMES + ANYTHING:
            if not (type(wrong) is str and wrong in ("a", "b", "c", "ab", "ba", "aa", "p", "most", "row", "gap", "starts")):
                self.unchanged(desk, InvalidName, lambda: desk.add(wrong))
        for name in ("a", "zoe"):
            self.unchanged(desk, Exists, lambda: desk.add(name))

    def test_five_travellers_and_a_sixth(self):
        desk = desk_with(SHORT, "e", "d", "c", "b", "a")
        self.unchanged(desk, Full, lambda: desk.add("f"))
        self.unchanged(desk, Exists, lambda: desk.add("c"))
        self.unchanged(desk, InvalidName, lambda: desk.add(""))
        self.assertEqual(desk.remove("c"), "")
        self.assertIsNone(desk.add("f"))
        self.assertEqual(desk.names(), ["a", "b", "d", "e", "f"])

    def test_who_comes_later_was_away(self):
        desk = desk_with(SHORT, "ann")
        days_of(desk, "a", "a", ".")
        desk.add("bob")
        self.assertEqual(desk.calendar("bob"), "...")
        self.assertEqual(desk.calendar("ann"), "aa.")
        self.assertEqual(days_of(desk, ".a"), [[]])
        self.assertEqual(desk.calendar("bob"), "...a")

    def test_remove(self):
        desk = desk_with(SHORT, "ann", "bob")
        days_of(desk, "a.", "aa")
        self.assertEqual(desk.remove("ann"), "aa")
        self.assertEqual(desk.names(), ["bob"])
        for wrong in ["ann", "cy", "", None, 0, True, ["bob"], ("bob",), []] + ANYTHING:
            self.unchanged(desk, NoTraveller, lambda: desk.remove(wrong))
            self.unchanged(desk, NoTraveller, lambda: desk.calendar(wrong))
            self.unchanged(desk, NoTraveller, lambda: desk.may(wrong))
        desk.add("ann")
        self.assertEqual(desk.calendar("ann"), "..")
        self.assertEqual(desk.remove("bob"), ".a")


class DayTest(Shown):
    def test_who_breaks_a_limit(self):
        desk = desk_with(SHORT, "ann", "bob", "cy")
        self.assertEqual(days_of(desk, "aa.", "aa.", "a.a", "...", "a.a", "..a", "..a"),
                         [[], [], ["ann"], ["ann"], ["ann"], ["cy"], ["cy"]])
        self.assertEqual(desk.calendar("ann"), "aaa.a..")
        self.assertEqual(desk.broken(), ["ann", "cy"])

    def test_a_limit_is_broken_on_each_day_that_has_a_breach(self):
        desk = desk_with(("ab", (("row", "ab", 1), ("gap", "a", 2))), "x")
        self.assertEqual(days_of(desk, "a", "b", "a", "."), [[], ["x"], ["x"], []])

    def test_no_entries(self):
        desk = desk_with(SHORT, "ann", "bob")
        self.assertEqual(desk.day(()), [])
        self.assertEqual(desk.calendar("ann"), ".")
        self.assertEqual(Desk(SHORT).day(()), [])

    def test_wrong_entries(self):
        desk = desk_with(SHORT, "ann", "bob", "cy")
        days_of(desk, "a.a")
        for wrong in [
            None, True, 0, "", "ann", [], [("ann", "a")], ("ann", "a"), (("ann",),), (("ann", "a", "a"),), (["ann", "a"],),
            (("bob", "a"), ("ann", "a")), (("ann", "a"), ("ann", "a")), (("dan", "a"),), (("", "a"),), ((None, "a"),),
            ((["ann"], "a"),), ((("ann",), "a"),), (("ann", "b"),), (("ann", "."),), (("ann", ""),), (("ann", "ab"),),
            (("ann", "aa"),), (("ann", None),), (("ann", ["a"]),), (("ann", ("a",)),), (("ann", 0),), (("ann", True),),
            (("a", "ann"),), (("ann", "a"), ("bob", "a"), ("bob", "a")), (("ann", "a"), None), (("ann", "a"), ()),
            (("ann", "a"), ("cy", "a"), ("bob", "a")), (("ann", "?"),), (("ann", "p"),), (1, 2), ((1, 2), (1, "a")),
        ] + [value for value in ANYTHING if value != ()]:
            self.unchanged(desk, InvalidEntries, lambda: desk.day(wrong))
        desk = desk_with(TWO, "ann")
        for wrong in [(("ann", "ab"),), (("ann", "a"), ("ann", "b")), (("ann", "c"),), (("ann", "ba"),)]:
            self.unchanged(desk, InvalidEntries, lambda: desk.day(wrong))
        self.assertEqual(desk.day((("ann", "b"),)), [])
        self.assertEqual(desk.calendar("ann"), "b")

    def test_60_days_and_one_more(self):
        desk = desk_with(SHORT, "ann")
        for day in range(60):
            self.assertEqual(len(desk), day)
            self.assertEqual(desk.day((("ann", "a"),) if day % 4 < 2 else ()), [])
        self.assertEqual(len(desk), 60)
        self.unchanged(desk, TooLong, lambda: desk.day(()))
        self.unchanged(desk, TooLong, lambda: desk.day((("ann", "a"),)))
        self.unchanged(desk, InvalidEntries, lambda: desk.day((("bob", "a"),)))
        self.assertEqual(desk.calendar("ann"), "aa.." * 15)
        self.assertEqual(desk.may("ann"), [".", "a"])
        desk.add("bob")
        self.assertEqual(desk.calendar("bob"), "." * 60)
        desk.undo()
        desk.undo()
        self.assertEqual(len(desk), 59)
        self.assertEqual(desk.day((("ann", "a"),)), ["ann"])
        self.assertEqual(desk.calendar("ann"), "aa.." * 14 + "aa.a")
        self.unchanged(desk, TooLong, lambda: desk.day(()))


class LimitsTest(Shown):
    def test_may(self):
        desk = desk_with(SHORT, "ann", "bob")
        days_of(desk, "a.", "aa")
        self.assertEqual(desk.may("ann"), ["."])
        self.assertEqual(desk.may("bob"), [".", "a"])
        desk = desk_with(TWO, "ann")
        self.assertEqual(desk.may("ann"), [".", "a", "b"])
        days_of(desk, "a", "b")
        self.assertEqual(desk.may("ann"), ["."])
        desk.set_limits((("gap", "a", 3),))
        self.assertEqual(desk.may("ann"), [".", "b"])

    def test_may_of_a_calendar_that_is_not_allowed(self):
        desk = desk_with(SHORT, "ann")
        days_of(desk, "a", "a", "a")
        self.assertEqual(desk.may("ann"), [])
        days_of(desk, ".")
        self.assertEqual(desk.may("ann"), ["."])
        days_of(desk, ".")
        self.assertEqual(desk.may("ann"), [".", "a"])
        self.assertEqual(desk.broken(), ["ann"])

    def test_set_limits_makes_calendars_broken_and_mends_them(self):
        desk = desk_with(SHORT, "ann", "bob")
        days_of(desk, "aa", "a.", ".a")
        self.assertEqual(desk.broken(), [])
        self.assertIsNone(desk.set_limits((("row", "a", 1),)))
        self.assertEqual(desk.book(), ("a", (("row", "a", 1),)))
        self.assertEqual(desk.broken(), ["ann"])
        self.assertEqual(desk.may("bob"), ["."])
        desk.set_limits((("gap", "a", 2),))
        self.assertEqual(desk.broken(), ["bob"])
        desk.set_limits(())
        self.assertEqual(desk.broken(), [])
        self.assertEqual(desk.may("ann"), [".", "a"])

    def test_invalid_limits(self):
        desk = desk_with(SHORT, "ann")
        for wrong in [None, [], [("row", "a", 1)], (("row", "b", 1),), (("row", "ab", 1),), (("row", "a", 6),), "a", 1, True,
                      (("row", "a", True),), (("row", "a", 1),) * 5, ("row", "a", 1), (("row", "a"),), SHORT,
                      (["row", "a", 1],)] + [value for value in ANYTHING if value != ()]:
            self.unchanged(desk, InvalidLimits, lambda: desk.set_limits(wrong))
        Desk(TWO).set_limits((("row", "b", 1),))


class EditionsTest(Shown):
    def test_save_and_load(self):
        desk = desk_with(SHORT, "ann")
        days_of(desk, "a")
        self.assertIsNone(desk.save("one"))
        days_of(desk, "a")
        desk.add("bob")
        desk.set_limits(())
        self.assertIsNone(desk.save("abcdef"))
        self.assertEqual(desk.editions(), ["abcdef", "one"])
        self.assertIsNone(desk.load("one"))
        self.assertEqual(self.show(desk), (SHORT, 1, [("ann", "a")], [], ["abcdef", "one"]))
        desk.load("abcdef")
        self.assertEqual(self.show(desk), (("a", ()), 2, [("ann", "aa"), ("bob", "..")], [], ["abcdef", "one"]))

    def test_errors(self):
        desk = desk_with(SHORT, "ann")
        desk.save("one")
        for wrong in WRONG_NAMES:
            self.unchanged(desk, InvalidName, lambda: desk.save(wrong))
        for wrong in WRONG_NAMES + ["two", "on", "ones", "ann"] + ANYTHING:
            self.unchanged(desk, NoEdition, lambda: desk.load(wrong))
        self.unchanged(desk, Taken, lambda: desk.save("one"))

    def test_editions_outlast_undo_redo_and_changes(self):
        desk = desk_with(SHORT, "ann")
        days_of(desk, "a")
        desk.save("one")
        desk.undo()
        desk.undo()
        self.assertEqual(desk.editions(), ["one"])
        self.assertEqual(desk.names(), [])
        desk.load("one")
        self.assertEqual(desk.calendar("ann"), "a")
        days_of(desk, "a", "a")
        desk.remove("ann")
        desk.load("one")
        self.assertEqual(self.show(desk), (SHORT, 1, [("ann", "a")], [], ["one"]))
        self.unchanged(desk, Taken, lambda: desk.save("one"))

    def test_undo_and_redo_of_load(self):
        desk = desk_with(SHORT, "ann")
        desk.save("one")
        days_of(desk, "a")
        desk.load("one")
        desk.undo()
        self.assertEqual(desk.calendar("ann"), "a")
        desk.redo()
        self.assertEqual(desk.calendar("ann"), "")

    def test_save_is_not_undone_and_clears_nothing(self):
        desk = desk_with(SHORT, "ann")
        desk.undo()
        desk.save("one")
        desk.redo()
        self.assertEqual(desk.names(), ["ann"])
        desk.undo()
        self.assertEqual(desk.editions(), ["one"])
        self.unchanged(desk, NothingToUndo, desk.undo)


class UndoTest(Shown):
    def test_nothing_to_undo(self):
        desk = Desk(SHORT)
        self.unchanged(desk, NothingToUndo, desk.undo)
        self.unchanged(desk, NothingToUndo, desk.redo)
        desk.save("one")
        self.unchanged(desk, NothingToUndo, desk.undo)

    def test_each_kind_of_call(self):
        desk = Desk(SHORT)
        calls = [lambda: desk.add("ann"), lambda: desk.day((("ann", "a"),)), lambda: desk.add("bob"), lambda: desk.save("one"),
                 lambda: desk.set_limits(()), lambda: desk.remove("ann"), lambda: desk.load("one"), lambda: desk.day(())]
        shown = [self.show(desk)[:4]]
        for call in calls:
            call()
            if self.show(desk)[:4] != shown[-1]:
                shown.append(self.show(desk)[:4])
        self.assertEqual(len(shown), 8)
        for _ in range(2):
            for wanted in shown[-2::-1]:
                self.assertIsNone(desk.undo())
                self.assertEqual(self.show(desk)[:4], wanted)
            self.unchanged(desk, NothingToUndo, desk.undo)
            for wanted in shown[1:]:
                self.assertIsNone(desk.redo())
                self.assertEqual(self.show(desk)[:4], wanted)
            self.unchanged(desk, NothingToUndo, desk.redo)

    def test_calls_that_changed_nothing_are_undone_too(self):
        desk = desk_with(SHORT, "ann")
        desk.save("one")
        desk.set_limits(SHORT[1])
        desk.load("one")
        for many in range(2):
            desk.undo()
            self.assertEqual(desk.names(), ["ann"], many)
        desk.undo()
        self.assertEqual(desk.names(), [])
        for many in range(3):
            desk.redo()
            self.assertEqual(desk.names(), ["ann"], many)
        self.unchanged(desk, NothingToUndo, desk.redo)

    def test_a_new_call_clears_what_can_be_redone(self):
        for change in [lambda desk: desk.add("bob"), lambda desk: desk.remove("ann"), lambda desk: desk.day(()),
                       lambda desk: desk.set_limits(SHORT[1]), lambda desk: desk.load("one")]:
            desk = desk_with(SHORT, "ann", "cy")
            desk.save("one")
            desk.undo()
            change(desk)
            self.unchanged(desk, NothingToUndo, desk.redo)
            desk.undo()
            self.assertEqual(desk.names(), ["ann"])
            desk.redo()

    def test_a_call_that_raises_clears_nothing(self):
        desk = desk_with(SHORT, "ann", "cy")
        desk.save("one")
        desk.undo()
        for call in [lambda: desk.add("ann"), lambda: desk.add(""), lambda: desk.remove("cy"), lambda: desk.day((("cy", "a"),)),
                     lambda: desk.set_limits([]), lambda: desk.load("two"), lambda: desk.save("one"),
                     lambda: desk.save("A"), lambda: desk.calendar("cy"), lambda: desk.may("cy")]:
            with self.assertRaises(StayError):
                call()
        desk.redo()
        self.assertEqual(desk.names(), ["ann", "cy"])
        desk.undo()
        desk.undo()
        self.unchanged(desk, NothingToUndo, desk.undo)

    def test_looking_clears_nothing(self):
        desk = desk_with(SHORT, "ann")
        desk.undo()
        self.show(desk)
        desk.copy()
        len(desk)
        desk.redo()
        self.assertEqual(desk.names(), ["ann"])


class CopyTest(Shown):
    def test_copies_go_different_ways(self):
        desk = desk_with(SHORT, "ann", "bob")
        days_of(desk, "a.")
        desk.save("one")
        desk.undo()
        other = desk.copy()
        self.assertEqual(self.show(other), self.show(desk))
        # The histories are equal and independent.
        other.redo()
        self.assertEqual((len(desk), len(other)), (0, 1))
        desk.remove("ann")
        self.assertEqual((desk.names(), other.names()), (["bob"], ["ann", "bob"]))
        self.unchanged(desk, NothingToUndo, desk.redo)
        for _ in range(3):
            desk.undo()
            other.undo()
        self.unchanged(other, NothingToUndo, other.undo)
        self.unchanged(desk, NothingToUndo, desk.undo)
        desk.save("two")
        other.save("three")
        self.assertEqual((desk.editions(), other.editions()), (["one", "two"], ["one", "three"]))
        other.set_limits(())
        self.assertEqual((desk.book(), other.book()), (SHORT, ("a", ())))
        for each in (desk, other):
            each.load("one")
            self.assertEqual(each.names(), ["ann", "bob"])

    def test_a_copy_of_a_copy(self):
        desk = desk_with(SHORT, "ann")
        copies = [desk]
        for day in range(4):
            copies.append(copies[-1].copy())
            copies[-1].day(())
        self.assertEqual([len(each) for each in copies], [0, 1, 2, 3, 4])
        for each in copies:
            for _ in range(len(each) + 1):
                each.undo()
            self.unchanged(each, NothingToUndo, each.undo)


class EqualTest(Shown):
    def test_histories_and_editions_do_not_matter(self):
        desk = desk_with(SHORT, "ann", "bob")
        other = desk_with(SHORT, "bob", "cy", "ann")
        self.assertFalse(desk == other)
        other.remove("cy")
        other.save("one")
        self.assertTrue(desk == other)
        self.assertFalse(desk != other)
        other.undo()
        self.assertTrue(desk != other)
        other.redo()
        self.assertTrue(desk == other)
        self.assertTrue(desk == desk.copy())

    def test_the_last_call_does_not_matter(self):
        desks = []
        for last in range(5):
            desk = desk_with(SHORT, "ann", "bob")
            calls = [lambda: days_of(desk, "a."), lambda: desk.remove("bob"), lambda: desk.set_limits(())]
            for call in calls[last % 3:] + calls[:last % 3]:
                call()
            if last > 2:
                desk.save("one")
                desk.load("one")
            if last == 4:
                desk.undo()
            desks.append(desk)
        for one in desks:
            for other in desks:
                self.assertTrue(one == other)

    def test_what_matters(self):
        desk = desk_with(SHORT, "ann")
        days_of(desk, "a")
        for change in [lambda other: other.add("bob"), lambda other: other.day(()), lambda other: other.set_limits(()),
                       lambda other: other.remove("ann"), lambda other: other.undo()]:
            other = desk.copy()
            self.assertTrue(desk == other)
            change(other)
            self.assertFalse(desk == other)
            self.assertTrue(desk != other)
        self.assertFalse(Desk(SHORT) == Desk(("a", ())))
        self.assertFalse(Desk(("a", ())) == Desk(("ab", ())))
        self.assertTrue(Desk(("ab", ())) == Desk(("ab", ())))
        # The number of days counts also where there are no travellers.
        other = Desk(SHORT)
        other.day(())
        self.assertFalse(Desk(SHORT) == other)

    def test_books_that_are_alike_are_not_equal(self):
        one = Desk(("a", (("row", "a", 2), ("row", "a", 3))))
        self.assertFalse(one == Desk(("a", (("row", "a", 3), ("row", "a", 2)))))
        self.assertFalse(one == Desk(("a", (("row", "a", 2),))))

    def test_other_objects(self):
        for other in ANYTHING + [SHORT, object(), Desk, (SHORT, 0, {}), (SHORT, "", ())]:
            self.assertIs(Desk(SHORT) == other, False)
            self.assertIs(Desk(SHORT) != other, True)


class ListsTest(Shown):
    def test_returned_lists_are_new(self):
        desk = desk_with(SHORT, "ann", "bob")
        days_of(desk, "aa", "a.", "a.")
        desk.save("one")
        calls = [desk.names, desk.broken, desk.editions, lambda: desk.may("ann"), lambda: desk.may("bob")]
        for call in calls:
            first = call()
            kept = list(first)
            self.assertIs(type(first), list)
            first.append("more")
            self.assertEqual(call(), kept)
            first.clear()
            self.assertEqual(call(), kept)
        told = desk.day((("ann", "a"),))
        self.assertEqual(told, ["ann"])
        told.clear()
        self.assertEqual(desk.broken(), ["ann"])
        self.assertEqual(desk.copy().day(()), ["ann"])


if __name__ == "__main__":
    unittest.main()
