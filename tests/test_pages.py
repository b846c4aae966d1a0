"""Point 40."""

import random
import unittest

from truealmanac.almanac import almanac
from truealmanac.calendars import date_of
from truealmanac.errors import PageError
from truealmanac.pages import page_text, read_page
from plain import error_of, replaced
import samples

CYCLE = (100, ((30, 31), (29,), (1, 1, 400)))
ENTRIES = [(-5, [(0, "rise", ("sun",)), (425, "phase0", ("moon", "sun"))]), (-4, []), (-3, [(1439, "low", ("brest",))])]
LINES = ["DAY 1 1 1 1", "07:05 rise sun", "07:05 a", "23:59 meet moon mars", "DAY 2 1 1 2", "DAY 3 1 1 3", "00:00 b c"]


def text_of(lines):
    return "".join(line + "\n" for line in lines)


class Pages(unittest.TestCase):
    def test_text(self):
        self.assertEqual(page_text("gregorian", ENTRIES), text_of([
            "DAY -5 0 12 26", "00:00 rise sun", "07:05 phase0 moon sun", "DAY -4 0 12 27", "DAY -3 0 12 28",
            "23:59 low brest"]))
        self.assertEqual(page_text("julian", ENTRIES[1:2]), "DAY -4 0 12 29\n")
        self.assertEqual(page_text(CYCLE, [(100, []), (161, []), (190, [])]),
                         "DAY 100 1 1 1\nDAY 161 2 1 1\nDAY 190 3 1 1\n")
        self.assertEqual(page_text("gregorian", []), "")

    def test_there_and_back(self):
        for calendar in ("gregorian", "julian", CYCLE):
            self.assertEqual(read_page(calendar, page_text(calendar, ENTRIES)), ENTRIES)
            wishes = [("risings", "sun", 0), ("phases", "moon", "sun"), ("tides", samples.port())]
            for first in (-1, 730000, -4000000, 3999990):
                entries = [(day - 9 + first, rows) for day, rows in
                           almanac(samples.sky(), (0, 0), (0, ()), wishes, 9, 14)]
                text = page_text(calendar, entries)
                self.assertTrue(text.startswith("DAY {} {} {} {}\n".format(first, *date_of(calendar, first))))
                self.assertEqual(read_page(calendar, text), entries)

    def test_right_texts(self):
        self.assertEqual(read_page("gregorian", ""), [])
        self.assertEqual(read_page("gregorian", text_of(LINES)), [
            (1, [(425, "rise", ("sun",)), (425, "a", ()), (1439, "meet", ("moon", "mars"))]), (2, []),
            (3, [(0, "b", ("c",))])])
        rows = ["00:00 z9 z", "00:00 a", "00:00 abcdefgh a2345678 a b c d e f g h i j k", "00:01 a a"]
        told = [(0, "z9", ("z",)), (0, "a", ()), (0, "abcdefgh", ("a2345678", *"abcdefghijk")), (1, "a", ("a",))]
        self.assertEqual(read_page("gregorian", text_of(LINES[:1] + rows)), [(1, told)])


class WrongPages(unittest.TestCase):
    def fault(self, text, calendar="gregorian"):
        told = error_of(PageError, read_page, calendar, text)
        return told if told is None else told["at"]

    def test_wrong_rows(self):
        for row in [
            "", " ", "07:05", "07:05 ", "7:05 a", "007:05 a", "07:5 a", "07:005 a", "07.05 a", "0705 a", "24:00 a",
            "07:60 a", "-7:05 a", "0x:05 a", "x7:05 a", "07:x5 a", "07:0x a", "0_:05 a",
            "07:-5 a", "+7:05 a", "07: 5 a", " 07:05 a", "07:05  a", "07:05 a ", "07:05 a  b",
            "07:05\ta", "07:05 A", "07:05 9a", "07:05 a-b", "07:05 abcdefghi", "07:05 a abcdefghi", "07:05 a B",
            "07:05 a 1", "07:05 a b.", "07:05 \u00e4", "07:05 a\u00b2", "\u0660\u0667:05 a", "07:05 a\r", "row 07:05 a",
            "day 2 1 1 2", "DAY", "a:bcd e", "07:05:00 a",
        ]:
            self.assertEqual(self.fault(text_of(replaced(LINES, 1, row))), 1, repr(row))

    def test_wrong_days(self):
        for line in [
            "DAY 2", "DAY 2 1 1", "DAY 2 1 1 2 3", "DAY 2 1 1 2 ", "DAY  2 1 1 2", "DAY 02 1 1 2", "DAY 2 01 1 2",
            "DAY 2 1 +1 2", "DAY 2 1 1 x", "DAY 2 1 1 3", "DAY 2 1 2 2", "DAY 2 2 1 2", "DAY 3 1 1 3", "DAY 1 1 1 1",
            "DAY 4 1 1 4", "DAY 0 0 12 31", "Day 2 1 1 2", "DAYS 2 1 1 2", " DAY 2 1 1 2", "DAY 2 1 1 \u0662", "DAY ",
        ]:
            self.assertEqual(self.fault(text_of(replaced(LINES, 4, line))), 4, repr(line))
        self.assertEqual(self.fault("DAY 0 0 12 31\nDAY 1 1 1 1\n"), None)
        self.assertEqual(self.fault("DAY 0 -0 12 31\n"), 0)

    def test_days_out_of_range(self):
        for calendar in ("gregorian", "julian", CYCLE):
            for first, at in [(-4000000, None), (-4000001, 0), (3999999, None), (4000000, 1), (4000001, 0)]:
                text = page_text(calendar, [(first, []), (first + 1, [])])
                self.assertEqual(self.fault(text, calendar), at)

    def test_dates_of_another_calendar(self):
        for calendar in ("gregorian", "julian", CYCLE):
            for other in ("gregorian", "julian", CYCLE):
                text = page_text(calendar, [(1000, []), (1001, [])])
                self.assertEqual(self.fault(text, other), None if calendar == other else 0)

    def test_a_row_ahead_of_the_days(self):
        self.assertEqual(self.fault("07:05 a\nDAY 1 1 1 1\n"), 0)
        self.assertEqual(self.fault("07:05 a\n"), 0)

    def test_minutes_that_descend(self):
        self.assertEqual(self.fault(text_of(["DAY 1 1 1 1", "07:05 a", "07:04 a", "07:05 a"])), 2)
        self.assertEqual(self.fault(text_of(["DAY 1 1 1 1", "07:05 a", "07:05 a", "06:59 a"])), 3)
        self.assertEqual(self.fault(text_of(["DAY 1 1 1 1", "07:05 a", "08:00 a", "07:30 a"])), 3)
        self.assertEqual(self.fault(text_of(["DAY 1 1 1 1", "07:05 a", "DAY 2 1 1 2", "00:00 a"])), None)

    def test_the_last_newline(self):
        for many in range(1, len(LINES) + 1):
            self.assertEqual(self.fault(text_of(LINES[:many])[:-1]), many - 1)
        self.assertEqual(self.fault(text_of(LINES) + "\n"), len(LINES))
        self.assertEqual(self.fault(text_of(LINES) + " "), len(LINES))
        self.assertEqual(self.fault("\n"), 0)
        self.assertEqual(self.fault("x"), 0)

    def test_the_first_wrong_line_is_told(self):
        rng = random.Random(40)
        for _ in range(60):
            wrong = sorted(rng.sample(range(len(LINES)), 2))
            lines = replaced(replaced(LINES, wrong[0], "x"), wrong[1], "DAY 9 9 9 9")
            self.assertEqual(self.fault(text_of(lines)), wrong[0])


if __name__ == "__main__":
    unittest.main()
