"""Point 71."""

import random
import unittest

from truealmanac.calendars import date_of, day_of
from truealmanac.eras import day_of_era, era_date
from truealmanac.errors import DateError
from plain import error_of

# These eras begin within a year, two of them in one year.
ERAS = (("Old one", day_of("gregorian", (1868, 1, 25))), ("taisho", day_of("gregorian", (1912, 7, 30))),
        ("", day_of("gregorian", (1926, 12, 25))), ("shortest", day_of("gregorian", (1926, 12, 28))),
        ("heisei", day_of("gregorian", (1989, 1, 8))))
ONE = (("a", 100),)


def era_date_as_told(eras, day):
    begun = [era for era in eras if era[1] <= day]
    year, month, number = date_of("gregorian", day)
    return (begun[-1][0], year - date_of("gregorian", begun[-1][1])[0] + 1, month, number)


class EraDates(unittest.TestCase):
    def test_one_era(self):
        self.assertEqual(era_date(ONE, 100), ("a", 1, 4, 10))
        self.assertEqual(era_date(ONE, 365), ("a", 1, 12, 31))
        self.assertEqual(era_date(ONE, 366), ("a", 2, 1, 1))
        self.assertEqual(day_of_era(ONE, ("a", 1, 4, 10)), 100)
        self.assertEqual(era_date((("b", -4000000),), 0)[:2], ("b", 10952))

    def test_ahead_of_the_first_era(self):
        for eras, day in [(ONE, 99), (ONE, -4000000), (ERAS, ERAS[0][1] - 1)]:
            self.assertEqual(error_of(DateError, era_date, eras, day), {"code": "era"})

    def test_first_and_last_days(self):
        for at, (name, first) in enumerate(ERAS):
            self.assertEqual(era_date(ERAS, first), (name, 1, *date_of("gregorian", first)[1:]))
            if at > 0:
                self.assertEqual(era_date(ERAS, first - 1), era_date_as_told(ERAS, first - 1))
                self.assertEqual(era_date(ERAS, first - 1)[0], ERAS[at - 1][0])
        self.assertEqual(era_date(ERAS, ERAS[2][1] + 2), ("", 1, 12, 27))
        self.assertEqual(era_date(ERAS, ERAS[3][1] + 4), ("shortest", 2, 1, 1))

    def test_there_and_back(self):
        rng = random.Random(71)
        for _ in range(500):
            day = rng.randint(ERAS[0][1], 3652425)
            self.assertEqual(era_date(ERAS, day), era_date_as_told(ERAS, day))
            self.assertEqual(day_of_era(ERAS, era_date(ERAS, day)), day)
        early = (("a", -3652000), ("b", -50), ("c", 49))
        for day in list(range(-60, 60)) + [-3652000, -3000000, 3652425]:
            self.assertEqual(day_of_era(early, era_date(early, day)), day)


class WrongEraDates(unittest.TestCase):
    def code(self, eras, date):
        told = error_of(DateError, day_of_era, eras, date)
        return told if told is None else told["code"]

    def test_names(self):
        for name in ("b", "", "A", "aa"):
            self.assertEqual(self.code(ONE, (name, 1, 4, 10)), "era")
        # A name that is none comes first.
        self.assertEqual(self.code(ONE, ("b", 10 ** 9, 13, 40)), "era")

    def test_years(self):
        for year, code in [(10000, None), (10001, "year"), (10 ** 20, "year"), (-10 ** 20, "year"), (-10001, "year"),
                           (-10000, "era"), (0, "era")]:
            self.assertEqual(self.code(ONE, ("a", year, 5, 1)), code)
        # The year of the Gregorian date counts: this era begins in 1868.
        for year, code in [(10000 - 1867, "era"), (10001 - 1867, "year"), (-10000 - 1867, "era"), (-10001 - 1867, "year")]:
            self.assertEqual(self.code(ERAS, ("Old one", year, 5, 1)), code)
        self.assertEqual(self.code(ONE, ("a", 10001, 13, 40)), "year")

    def test_months_and_days(self):
        for month in (0, 13, -1):
            self.assertEqual(self.code(ONE, ("a", 2, month, 40)), "month")
        for month, day in [(1, 0), (1, 32), (2, 29), (4, 31), (12, -1)]:
            self.assertEqual(self.code(ONE, ("a", 2, month, day)), "day")
        # The year 4 is a leap year, the fourth of this era.
        self.assertIsNone(self.code(ONE, ("a", 4, 2, 29)))
        # These come before the era that does not have the day.
        self.assertEqual(self.code(ERAS, ("taisho", 99, 2, 30)), "day")
        self.assertEqual(self.code(ERAS, ("taisho", 99, 14, 3)), "month")

    def test_days_of_other_eras(self):
        for at, (name, first) in enumerate(ERAS):
            before = date_of("gregorian", first - 1)
            year = before[0] - date_of("gregorian", first)[0] + 1
            self.assertEqual(self.code(ERAS, (name, year, *before[1:])), "era")
            if at + 1 < len(ERAS):
                behind = date_of("gregorian", ERAS[at + 1][1])
                year = behind[0] - date_of("gregorian", first)[0] + 1
                self.assertEqual(self.code(ERAS, (name, year, *behind[1:])), "era")
                last = date_of("gregorian", ERAS[at + 1][1] - 1)
                year = last[0] - date_of("gregorian", first)[0] + 1
                self.assertIsNone(self.code(ERAS, (name, year, *last[1:])))
        self.assertEqual(self.code(ONE, ("a", 1, 4, 9)), "era")
        self.assertEqual(self.code(ONE, ("a", 0, 12, 31)), "era")

    def test_days_beyond_the_years(self):
        # Days of the year 10952 have era dates, but the year cannot be turned back.
        told = era_date(ONE, 4000000)
        self.assertEqual(told[:2], ("a", 10952))
        self.assertEqual(self.code(ONE, told), "year")


if __name__ == "__main__":
    unittest.main()
