"""14.1 and 14.2."""

import unittest

from staybounds.errors import InvalidBook, InvalidCalendar, ParseError
from staybounds.formats import format_book, format_calendar, parse_book, parse_calendar
from tests.forms import is_book_text, is_calendar_text
from tests.plainly import with_kinds
from tests.samples import ANYTHING, SHORT, TWO, calendars_up_to, limits_of, long_calendars, mixed_books

FREE = ("ab", ())
LARGE = ("ab", (("most", "ab", 6, 1), ("row", "b", 0), ("gap", "a", 5), ("starts", "ab", 5, 5)))
LETTERS = list(" \n.ab0123456789-zmostrowgpine") + ["\r", "\t", "\x0b", "\u2028", "\u00b2", "\u0662", "A", "\u0430", "\x00"]


def changed_by_a_character(text):
    """All texts with one character exchanged, dropped or added."""
    for at in range(len(text) + 1):
        if at < len(text):
            yield text[:at] + text[at + 1:]
        for letter in LETTERS:
            yield text[:at] + letter + text[at:]
            if at < len(text):
                yield text[:at] + letter + text[at + 1:]


class Formats(unittest.TestCase):
    def refused(self, text):
        with self.assertRaises(ParseError, msg=text):
            parse_book(text)

    def refused_of(self, book, text):
        with self.assertRaises(ParseError, msg=(book, text)):
            parse_calendar(book, text)


class FormatBookTest(Formats):
    def test_example(self):
        self.assertEqual(format_book(SHORT), "zones a\nmost a at 2 in 4\n")
        self.assertEqual(parse_book("zones a\nmost a at 2 in 4\n"), SHORT)

    def test_written_out(self):
        for book, text in [
            (("a", ()), "zones a\n"), (FREE, "zones ab\n"), (TWO, "zones ab\nrow ab at 2\ngap a at 2\n"),
            (LARGE, "zones ab\nmost ab at 6 in 1\nrow b at 0\ngap a at 5\nstarts ab at 5 in 5\n"),
            (("a", (("row", "a", 1),) * 4), "zones a\n" + "row a at 1\n" * 4),
        ]:
            self.assertEqual(format_book(book), text)
            self.assertEqual(parse_book(text), book)

    def test_what_is_written_is_read_back(self):
        texts = set()
        books = [(zones, (limit,)) for zones in ("a", "ab") for limit in limits_of(zones)]
        books += mixed_books("a", 60, 161) + mixed_books("ab", 60, 162)
        for book in books:
            text = format_book(book)
            texts.add(text)
            self.assertIs(type(text), str)
            self.assertEqual(with_kinds(parse_book(text)), with_kinds(book))
        self.assertEqual(len(texts), len({repr(book) for book in books}))


class ParseBookTest(Formats):
    def test_texts_that_are_no_format(self):
        for wrong in [
            "", "\n", " ", "zones", "zones\n", "zones \n", "zones a", "zones b\n", "zones ba\n", "zones abc\n", "zones A\n",
            "Zones a\n", "zone a\n", "zones  a\n", " zones a\n", "zones a \n", "zones a\n\n", "\nzones a\n", "zones\ta\n",
            "zones a\r\n", "zones a\x0b", "a\n", "zones a b\n", "zones a\nzones a\n", "most a at 2 in 4\n",
            "most a at 2 in 4\nzones a\n", "zones a\nmost a at 2 in 4", "zones a\n\nmost a at 2 in 4\n",
            "zones a\nmost a at 2 in 4\n\n", "zones a\nmost  a at 2 in 4\n", "zones a\nmost a at  2 in 4\n",
            "zones a\nmost a at 2 in 4 \n", "zones a\n most a at 2 in 4\n", "zones a\nmost a at 02 in 4\n",
            "zones a\nmost a at 2 in 04\n", "zones a\nmost a at +2 in 4\n", "zones a\nmost a at -2 in 4\n",
            "zones a\nmost a at 2.0 in 4\n", "zones a\nmost a at 2 in\n", "zones a\nmost a at 2\n", "zones a\nmost a 2 in 4\n",
            "zones a\nmost a at 2 4\n", "zones a\nmost a in 2 at 4\n", "zones a\nmost at a 2 in 4\n", "zones a\nmost a at 7 in 4\n",
            "zones a\nmost a at 2 in 7\n", "zones a\nmost a at 2 in 0\n", "zones a\nmost a at 2 in 4 in 4\n",
            "zones a\nrow a at 2 in 4\n", "zones a\nrow a at 6\n", "zones a\nrow a at 2 in\n", "zones a\nrow a at\n",
            "zones a\nrow a\n", "zones a\nrow\n", "zones a\ngap a at 0\n", "zones a\ngap a at 6\n", "zones a\ngap a at 2 in 3\n",
            "zones a\nstarts a at 6 in 5\n", "zones a\nstarts a at 1 in 6\n", "zones a\nstarts a at 1\n",
            "zones a\nrow b at 2\n", "zones a\nrow ab at 2\n", "zones ab\nrow ba at 2\n", "zones ab\nrow  at 2\n",
            "zones a\nrow a at \u0662\n", "zones a\nrow a at \u00b2\n", "zones a\nrow a at \uff12\n", "zones a\nrow a at 1_0\n",
            "zones a\nrow a at " + "9" * 5000 + "\n", "zones a\nrow a at " + "0" * 5000 + "\n", "zones a\nleast a at 2\n",
            "zones a\n" + "row a at 1\n" * 5, "zones a\n" + "row a at 1\n" * 10000, "zones a\nrow a at two\n",
            "zones a\nrow a at True\n", "\ufeffzones a\n", "zones a\u2028row a at 2\n", "zones a\rrow a at 2\n", "\ud800",
        ]:
            self.refused(wrong)

    def test_one_character_changed(self):
        books = [SHORT, LARGE, ("a", ())] + [(zones, (limit,)) for zones in ("a", "ab") for limit in limits_of(zones)[::9]]
        for book in books:
            for other in changed_by_a_character(format_book(book)):
                # Another zone or another integer can make it the format of another book.
                if is_book_text(other):
                    self.assertEqual(format_book(parse_book(other)), other)
                else:
                    self.refused(other)

    def test_texts_that_are_no_strings(self):
        for wrong in ANYTHING:
            self.refused(wrong)
        for wrong in [["zones a\n"], ("zones a\n",), ("zones a",), ["zones", "a"], SHORT, None, 0, True]:
            self.refused(wrong)


class FormatCalendarTest(Formats):
    def test_example(self):
        self.assertEqual(format_calendar(SHORT, "a......a"), "a......\na\n")

    def test_written_out(self):
        for calendar, text in [("", ""), (".", ".\n"), ("a" * 7, "a" * 7 + "\n"), ("a" * 8, "a" * 7 + "\na\n"),
                               ("." * 14, ("." * 7 + "\n") * 2), ("b" * 60, ("b" * 7 + "\n") * 8 + "bbbb\n"),
                               ("..a..b." * 2 + "aaaaaa", "..a..b.\n..a..b.\naaaaaa\n")]:
            self.assertEqual(format_calendar(TWO, calendar), text)
            self.assertEqual(parse_calendar(TWO, text), calendar)

    def test_what_is_written_is_read_back(self):
        for zones in ("a", "ab"):
            book = (zones, (("row", "a", 0),))
            calendars = list(calendars_up_to(zones, 4)) + long_calendars(zones, 60, 163)
            calendars += [(("." + zones) * 30)[:days] for days in range(61)]
            for calendar in calendars:
                text = format_calendar(book, calendar)
                self.assertEqual(parse_calendar(book, text), calendar)
                self.assertEqual(text.replace("\n", ""), calendar)
                lines = text.split("\n")
                self.assertEqual(lines[-1], "")
                self.assertEqual([len(line) for line in lines[:-2]], [7] * len(lines[:-2]))


class ParseCalendarTest(Formats):
    def test_texts_that_are_no_format(self):
        for wrong in [
            "\n", "a", "a\n\n", "\na\n", " a\n", "a \n", "a\r\n", "aaaaaaaa\n", "aaaaaaa", "aaaaaaa\n\n", "aaaaaaa\n\na\n",
            "aaa\naaaa\n", "aaaaaa\naaaaaaa\n", "aaaaaaa\naaaaaaaa\n", "aaaaaaa\naaa\na\n", "a\na\n", "b\n", "c\n", "A\n",
            "?\n", "p\n", "a......\na", "aaaaaaa\raaaaaaa\n", "aaaaaaa\x0ba\n", "a\u2028", "a\x00\n", "\ud800\n",
            ("." * 7 + "\n") * 8 + "." * 5 + "\n", ("." * 7 + "\n") * 9, ("." * 7 + "\n") * 5000, "." * 60 + "\n",
        ]:
            self.refused_of(SHORT, wrong)

    def test_letters_of_the_book_only(self):
        self.assertEqual(parse_calendar(TWO, "ab.\n"), "ab.")
        self.refused_of(SHORT, "ab.\n")
        self.refused_of(TWO, "abc\n")

    def test_60_days_and_one_more(self):
        text = ("a" * 7 + "\n") * 8
        self.assertEqual(parse_calendar(SHORT, text + "aaaa\n"), "a" * 60)
        self.refused_of(SHORT, text + "aaaaa\n")

    def test_a_calendar_need_not_be_allowed(self):
        self.assertEqual(parse_calendar(SHORT, "aaa\n"), "aaa")
        self.assertEqual(format_calendar(SHORT, "aaa"), "aaa\n")

    def test_one_character_changed(self):
        for calendar in ["", "a", "a" * 6, "a.a.a.a", "." * 8, "a" * 14, "." * 20]:
            for other in changed_by_a_character(format_calendar(SHORT, calendar)):
                if is_calendar_text("a", other):
                    self.assertEqual(format_calendar(SHORT, parse_calendar(SHORT, other)), other)
                else:
                    self.refused_of(SHORT, other)

    def test_texts_that_are_no_strings(self):
        for wrong in ANYTHING:
            if wrong not in ("", "a\n"):
                self.refused_of(SHORT, wrong)
        for wrong in [["a\n"], ("a\n",), (), [], None, 0, True]:
            self.refused_of(SHORT, wrong)


class WrongArgumentsTest(Formats):
    def test_order_of_errors(self):
        for wrong in [None, ["a", ()], ("b", ()), ("a", (("gap", "a", 0),)), True, "zones a\n"]:
            with self.assertRaises(InvalidBook):
                format_book(wrong)
            with self.assertRaises(InvalidBook):
                format_calendar(wrong, None)
            with self.assertRaises(InvalidBook):
                parse_calendar(wrong, None)
        for wrong in ["b", "a" * 61, "a\n", ["a"], ("a",), None, 0, True]:
            with self.assertRaises(InvalidCalendar):
                format_calendar(SHORT, wrong)


if __name__ == "__main__":
    unittest.main()
