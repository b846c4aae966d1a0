"""Point 54."""

import random
import re
import unittest

from truealmanac.calendars import date_of
from truealmanac.errors import PatternError
from truealmanac.patterns import is_pattern, read, write
from plain import error_of

LONG = "Y-M-D H:N"


class Patterns(unittest.TestCase):
    def test_right_ones(self):
        for pattern in ["YMD", LONG, "D.M.Y", "DMYHN", "day D of the month M, in Y", "MDY" + "x" * 37, "N..M|D{H}Y\n",
                        "Y-M-D\t \u20ac!"]:
            self.assertIs(is_pattern(pattern), True, pattern)

    def test_wrong_ones(self):
        for pattern in ["", "MD", "YD", "YM", "HN", "YYMD", "YMMD", "YMDD", "YMDHH", "YMDNN", "YMDNHN", "YMDA", "YMDZ",
                        "TYMD", "YMD0", "9YMD", "YMD 5", "MDY" + "x" * 38, "ymd", "Y-M-dS"]:
            self.assertIs(is_pattern(pattern), False, pattern)

    def test_each_ascii_character(self):
        for code in range(128):
            c = chr(code)
            fits = not re.fullmatch("[A-GI-MO-Z0-9]", c) and c not in "YMD"
            self.assertIs(is_pattern("Y-M-D" + c), fits, c)

    def test_writing(self):
        for pattern, date, minute, text in [
            ("YMD", (2024, 2, 29), 0, "20240229"), (LONG, (7, 1, 2), 65, "0007-01-02 01:05"),
            ("D.M.Y", (0, 12, 31), 1439, "31.12.0000"), ("H.Y/M/D", (9999, 10, 11), 1439, "23.9999/10/11"),
            ("N Y/M/D", (9999, 10, 11), 1439, "59 9999/10/11"), ("NHDMY", (1, 2, 3), 245, "050403020001"),
        ]:
            self.assertEqual(write(pattern, date, minute), text)


class Reading(unittest.TestCase):
    def fault(self, pattern, text, calendar="gregorian"):
        told = error_of(PatternError, read, calendar, pattern, text)
        return told if told is None else told["at"]

    def test_there_and_back(self):
        rng = random.Random(54)
        for pattern in [LONG, "NHDMY", "day D of M in Y, N past H"]:
            for calendar in ("gregorian", "julian"):
                for _ in range(40):
                    date, minute = date_of(calendar, rng.randint(5, 3652000)), rng.randint(0, 1439)
                    self.assertEqual(read(calendar, pattern, write(pattern, date, minute)), (date, minute))

    def test_without_hours_or_minutes(self):
        self.assertEqual(read("gregorian", "YMD", "20240229"), ((2024, 2, 29), 0))
        self.assertEqual(read("gregorian", "YMDH", "2024022923"), ((2024, 2, 29), 1380))
        self.assertEqual(read("gregorian", "YMDN", "2024022959"), ((2024, 2, 29), 59))

    def test_years(self):
        self.assertEqual(read("gregorian", "Y-M-D", "0000-01-01"), ((0, 1, 1), 0))
        self.assertEqual(read("julian", "Y-M-D", "9999-12-31"), ((9999, 12, 31), 0))

    def test_each_character_made_wrong(self):
        text = "2024-02-29 12:34"
        for at in range(len(text)):
            for wrong in ["x", "-" if text[at] != "-" else "5", "\u0663", "\u00b2", "Y", "+"]:
                self.assertEqual(self.fault(LONG, text[:at] + wrong + text[at + 1:]), at)
                self.assertEqual(self.fault(LONG, text[:at] + wrong), at)

    def test_too_short_and_too_long(self):
        text = "2024-02-29 12:34"
        for many in range(len(text)):
            self.assertEqual(self.fault(LONG, text[:many]), many)
        for more in ("0", "-", "0000"):
            self.assertEqual(self.fault(LONG, text + more), len(text))
        # What does not fit is told ahead of what is no date.
        self.assertEqual(self.fault(LONG, "2024-99-29 12:3"), 15)
        self.assertEqual(self.fault(LONG, "2024-99-29 12:345"), 16)

    def test_no_dates(self):
        for text in ["2023-02-29 00:00", "2024-13-01 00:00", "2024-00-01 00:00", "2024-01-00 00:00", "2024-01-32 00:00",
                     "2024-01-01 24:00", "2024-01-01 23:60", "2024-01-01 99:99", "1900-02-29 00:00"]:
            self.assertEqual(self.fault(LONG, text), -1, text)
        self.assertEqual(self.fault(LONG, "1900-02-29 00:00", "julian"), None)
        self.assertEqual(self.fault(LONG, "2024-01-01 23:59"), None)


if __name__ == "__main__":
    unittest.main()
