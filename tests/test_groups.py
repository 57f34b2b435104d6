"""12.1 and 12.2."""

import unittest

from staybounds.errors import InvalidGroup, InvalidNumber, TooLarge
from staybounds.groups import common_plan, first_common, is_group, most_common
from staybounds.judging import is_allowed
from staybounds.pasts import all_pasts
from tests.forms import spoiled
from tests.grouping import common_days, groups, is_plain_group, listed_best, listed_first, walk_together
from tests.samples import ANYTHING, SHORT, TWO

FREE = ("ab", ())
NONE_IN = ("ab", (("row", "ab", 0),))
EXAMPLE = ((SHORT, "", "a"), (SHORT, "aa", "a"))

# Books by the number of their pasts.
OF_20 = ("a", (("gap", "a", 2), ("starts", "a", 1, 5)))
OF_100 = ("ab", (("most", "b", 1, 2), ("most", "ab", 2, 3)))
OF_29 = ("a", (("most", "a", 3, 4),))
OF_69 = ("ab", (("most", "ab", 6, 5), ("starts", "a", 1, 3), ("most", "ab", 2, 4)))


class IsGroupTest(unittest.TestCase):
    def test_groups(self):
        for right in [((SHORT, "", "a"),), EXAMPLE, ((TWO, "ab", "b"),), ((TWO, "ab", "ab"), (SHORT, "a", "a")),
                      ((SHORT, "." * 60, "a"),), ((SHORT, "a", "a"),) * 2, ((SHORT, "", "a"), (TWO, "." * 60, "b"))]:
            self.assertIs(is_group(right), True, right)

    def test_wrong_ones(self):
        member = (SHORT, "", "a")
        for wrong in [(), (member,) * 3, (member,) * 4, [member], [member, member], member, (member, None), (None,),
                      (member, ()), (list(member),), (member[:2],), (member + ("a",),), (member[::-1],), None, "a", 1, True,
                      ((SHORT, "aaa", "a"),), (member, (SHORT, "aaa", "a")), ((SHORT, "b", "a"),), ((SHORT, "." * 61, "a"),),
                      ((SHORT, "", "b"),), ((SHORT, "", "ab"),), ((SHORT, "", ""),), ((SHORT, "", "."),),
                      ((SHORT, "", ("a",)),), ((SHORT, "", ["a"]),), ((SHORT, "", None),), ((TWO, "", "ba"),),
                      ((TWO, "a.a", "a"),), ((["a", ()], "", "a"),), ((("a", []), "", "a"),), ((("b", ()), "", "b"),),
                      ((None, "", "a"),), ((SHORT, ["a"], "a"),), ((SHORT, None, "a"),), ((SHORT, 0, "a"),)]:
            self.assertIs(is_group(wrong), False, wrong)

    def test_any_kind(self):
        for value in ANYTHING:
            for candidate in [value, (value,), ((value, "", "a"),), ((SHORT, value, "a"),), ((SHORT, "", value),),
                              ((SHORT, "", "a"), value)]:
                self.assertIs(is_group(candidate), is_plain_group(candidate), candidate)

    def test_spoiled_groups(self):
        for candidate in spoiled(((TWO, "ab.", "b"), (SHORT, "a", "a"))):
            self.assertIs(is_group(candidate), is_plain_group(candidate), candidate)


class MostCommonTest(unittest.TestCase):
    def check(self, group, days, most, plan):
        self.assertEqual(most_common(group, days), most, (group, days))
        self.assertEqual(common_plan(group, days), plan, (group, days))

    def test_example(self):
        self.check(EXAMPLE, 4, 2, ("..aa", "..aa"))

    def test_written_out(self):
        self.check(EXAMPLE, 0, 0, ("", ""))
        self.check(EXAMPLE, 1, 0, (".", "."))
        self.check(EXAMPLE, 2, 0, ("..", ".."))
        self.check(EXAMPLE, 3, 1, ("..a", "..a"))
        self.check(((SHORT, "", "a"),), 0, 0, ("",))
        self.check(((SHORT, "", "a"),), 5, 3, ("a..aa",))
        self.check(((SHORT, "aa", "a"),), 2, 0, ("..",))
        self.check(((SHORT, "aa", "a"),), 20, 10, ("..aa" * 5,))
        self.check(((FREE, "", "ab"),), 20, 20, ("a" * 20,))
        self.check(((NONE_IN, "", "ab"),), 20, 0, ("." * 20,))
        self.check(((TWO, "", "b"),), 3, 2, (".bb",))

    def test_the_first_of_the_tuples(self):
        once = ("ab", (("most", "ab", 1, 5),))
        self.check(((once, "", "a"), (once, "", "b")), 3, 1, ("..a", "..b"))
        # The first calendar comes first, also where the other one becomes greater by it.
        self.check(((("a", (("row", "a", 1),)), "", "a"), (("a", (("gap", "a", 3),)), "", "a")), 5, 3,
                   ("a.a.a", "aaaaa"))
        self.check(((OF_20, "", "a"), (("a", (("gap", "a", 3),)), "", "a")), 4, 4, ("aaaa", "aaaa"))
        self.check(((SHORT, "", "a"), (NONE_IN, "", "b")), 4, 0, ("....", "...."))
        self.check(((OF_100, "", "ab"), (("a", (("row", "a", 1),)), "", "a")), 3, 2, ("a.a", "a.a"))

    def test_a_member_who_is_in_another_zone_does_not_count(self):
        book = ("ab", (("row", "b", 0),))
        self.check(((book, "", "b"),), 4, 0, ("....",))
        self.check(((book, "", "ab"),), 4, 4, ("aaaa",))

    def compare(self, group, days):
        most, plan = listed_best(group, days)
        self.assertEqual(most_common(group, days), most, (group, days))
        found = common_plan(group, days)
        self.assertEqual(found, plan, (group, days))
        self.assertIs(type(found), tuple)

    def test_one_member_against_listing(self):
        for group in list(groups("a", 1, 30, 131)) + list(groups("ab", 1, 30, 132)) + [((TWO, "a", "ab"),)]:
            for days in range(6):
                self.compare(group, days)

    def test_two_members_against_listing(self):
        for group in list(groups("a", 2, 25, 133)) + [EXAMPLE]:
            for days in range(6):
                self.compare(group, days)

    def test_two_members_with_two_zones_against_listing(self):
        many = 0
        for group in groups("ab", 2, 40, 134):
            if len(all_pasts(group[0][0])) * len(all_pasts(group[1][0])) <= 2000:
                many += 1
                for days in range(4):
                    self.compare(group, days)
        self.assertGreater(many, 5)

    def test_members_of_different_books_against_listing(self):
        for one, other in zip(groups("a", 1, 20, 135), groups("ab", 1, 20, 136)):
            if len(all_pasts(one[0][0])) * len(all_pasts(other[0][0])) <= 2000:
                for group in (one + other, other + one):
                    for days in (1, 3, 4):
                        self.compare(group, days)

    def test_20_days(self):
        for group in list(groups("a", 2, 12, 137)) + [EXAMPLE, ((OF_20, "", "a"), (OF_100, "", "ab"))]:
            plan = common_plan(group, 20)
            self.assertEqual([len(calendar) for calendar in plan], [20] * len(group))
            for (book, calendar, _), more in zip(group, plan):
                if len(calendar) <= 40:
                    self.assertTrue(is_allowed(book, calendar + more))
            most = most_common(group, 20)
            self.assertEqual(len(common_days(group, plan)), most)
            # Each day more brings one common day more, or none.
            counts = [most_common(group, days) for days in range(21)]
            self.assertEqual(counts[-1], most)
            self.assertTrue(all(0 <= after - before <= 1 for before, after in zip([0] + counts, counts)))

    def test_behind_calendars_of_60_days(self):
        self.check(((SHORT, "aa.." * 15, "a"), (SHORT, "..aa" * 15, "a")), 4, 2, ("..aa", "..aa"))


class FirstCommonTest(unittest.TestCase):
    def test_example(self):
        self.assertEqual(first_common(EXAMPLE), 2)

    def test_written_out(self):
        late = ("a", (("gap", "a", 5),))
        for group, first in [
            (((SHORT, "", "a"),), 0), (((SHORT, "aa", "a"),), 2), (((late, "a", "a"),), 0), (((late, "a.", "a"),), 4),
            (((NONE_IN, "", "a"),), None), (((NONE_IN, "", "ab"), (SHORT, "", "a")), None),
            (((("ab", (("row", "b", 0),)), "", "b"),), None), (((("ab", (("row", "b", 0),)), "", "a"),), 0),
            (((late, "a.", "a"), (SHORT, "aa", "a")), 4), (((late, "a..", "a"), (SHORT, "aa", "a")), 3),
            (((("a", (("most", "a", 1, 6),)), "a", "a"),), 5), (((OF_100, "ab", "b"), (OF_20, "a", "a")), 1),
        ]:
            self.assertEqual(first_common(group), first, group)
            self.assertEqual(walk_together(group)[1], first, group)

    def test_against_listing(self):
        drawn = list(groups("a", 1, 30, 138)) + list(groups("ab", 1, 30, 139)) + list(groups("a", 2, 30, 140))
        found = []
        for group in drawn:
            first = first_common(group)
            listed = listed_first(group, 6)
            self.assertEqual(first, listed, group)
            found.append(first)
        self.assertIn(None, found)
        self.assertIn(0, found)
        self.assertGreater(max(first for first in found if first is not None), 2)

    def test_against_walking_day_by_day(self):
        for group in groups("ab", 2, 60, 141):
            seen, first = walk_together(group)
            if len(seen) <= 2000:
                self.assertEqual(first_common(group), first, group)


class TooLargeTest(unittest.TestCase):
    def calls(self, group):
        return [lambda: most_common(group, 0), lambda: most_common(group, 20), lambda: common_plan(group, 0),
                lambda: first_common(group)]

    def check(self, group, too_large):
        for call in self.calls(group):
            if too_large:
                with self.assertRaises(TooLarge, msg=group):
                    call()
            else:
                call()

    def test_just_2000_and_one_more(self):
        self.assertEqual([len(all_pasts(book)) for book in (OF_20, OF_100, OF_29, OF_69)], [20, 100, 29, 69])
        for group in [((OF_20, "", "a"), (OF_100, "", "b")), ((OF_100, "a", "ab"), (OF_20, "a", "a"))]:
            self.assertEqual(len(walk_together(group)[0]), 2000)
            self.check(group, False)
        for group in [((OF_29, "", "a"), (OF_69, "", "b")), ((OF_69, "b", "a"), (OF_29, "aa", "a"))]:
            self.assertEqual(len(walk_together(group)[0]), 2001)
            self.check(group, True)

    def test_one_member_is_never_too_large(self):
        self.check(((FREE, "", "ab"),), False)

    def test_the_greatest(self):
        self.check(((FREE, "", "ab"),) * 2, True)
        self.check(((("a", ()), "", "a"),) * 2, False)

    def test_counted_by_walking(self):
        larger = []
        for group in list(groups("ab", 2, 25, 142)) + list(groups("a", 2, 10, 143)):
            larger.append(len(walk_together(group)[0]) > 2000)
            self.check(group, larger[-1])
        self.assertEqual(set(larger), {True, False})


class WrongArgumentsTest(unittest.TestCase):
    def test_invalid_number(self):
        for wrong in [True, False, -1, 21, 10 ** 30, -10 ** 30, "1", None, (1,), [1], ""]:
            for function in (most_common, common_plan):
                with self.assertRaises(InvalidNumber, msg=wrong):
                    function(EXAMPLE, wrong)

    def test_order_of_errors(self):
        large = ((FREE, "", "ab"),) * 2
        for function in (most_common, common_plan):
            for arguments, error in [((None, None), InvalidGroup), (((), 21), InvalidGroup), ((list(EXAMPLE), 4), InvalidGroup),
                                     ((large, 21), InvalidNumber), ((large, True), InvalidNumber), ((large, 20), TooLarge),
                                     ((large + EXAMPLE, 21), InvalidGroup), ((((SHORT, "aaa", "a"),), 4), InvalidGroup)]:
                with self.assertRaises(error, msg=arguments):
                    function(*arguments)
        for group, error in [(None, InvalidGroup), ((), InvalidGroup), (large * 2, InvalidGroup), (large, TooLarge)]:
            with self.assertRaises(error):
                first_common(group)


if __name__ == "__main__":
    unittest.main()
