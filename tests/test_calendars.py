"""Points 29 to 32."""

import random
import unittest
from datetime import date as python_date

from truealmanac.calendars import date_of, day_of, is_calendar, weekday
from truealmanac.errors import DateError

MONTHS = [31, 28, 31, 30, 31, 30, 31, 31, 30, 31, 30, 31]
# Years of 2 and 3 months, of 9, 30 and 2 days, with year 1 on day 100.
CYCLE = (100, ((4, 5), (10, 1, 19), (1, 1)))
CALENDARS = ["gregorian", "julian", CYCLE, (-4000000, ((1,),)), (4000000, ((400,) * 14,) * 60)]


def is_leap(calendar, year):
    if calendar == "julian":
        return year % 4 == 0
    return year % 4 == 0 and (year % 100 != 0 or year % 400 == 0)


class Weekdays(unittest.TestCase):
    def test_weekdays(self):
        self.assertEqual([weekday(day) for day in range(-1, 9)], [5, 6, 0, 1, 2, 3, 4, 5, 6, 0])
        self.assertEqual(weekday(-4000000), (-4000001) % 7)
        self.assertEqual(weekday(python_date(2026, 11, 19).toordinal()), 3)


class IsCalendar(unittest.TestCase):
    def test_right_ones(self):
        for calendar in CALENDARS:
            self.assertIs(is_calendar(calendar), True, calendar)

    def test_strings(self):
        for text in ["", "Gregorian", "julian ", "cycle"]:
            self.assertIs(is_calendar(text), False)

    def test_bounds(self):
        for first, fits in [(-4000000, True), (4000000, True), (-4000001, False), (4000001, False)]:
            self.assertIs(is_calendar((first, ((30,),))), fits)
        for many, fits in [(0, False), (1, True), (60, True), (61, False)]:
            self.assertIs(is_calendar((1, ((30,),) * many)), fits)
        for many, fits in [(0, False), (1, True), (14, True), (15, False)]:
            self.assertIs(is_calendar((1, ((30,), (30,) * many))), fits)
        for length, fits in [(0, False), (1, True), (400, True), (401, False), (-1, False)]:
            self.assertIs(is_calendar((1, ((30, length), (30,)))), fits)

    def test_other_things(self):
        for thing in [(), (1,), ((),), (1, ()), (1, 2), (1, (3,)), (1, ((3,), 4)), (1, (((3,),),)), ((1,), ((3,),)),
                      (1, ((3,),), 1), (((3,),), 1), (True, ((3,),)), (1, ((True,),)), (1, ((3,), ()))]:
            self.assertIs(is_calendar(thing), False, thing)


class Dates(unittest.TestCase):
    def test_gregorian_against_python(self):
        rng = random.Random(30)
        days = [1, 2, 365, 366, 3652059] + [rng.randint(1, 3652059) for _ in range(3000)]
        for day in days:
            told = python_date.fromordinal(day)
            self.assertEqual(date_of("gregorian", day), (told.year, told.month, told.day))
            self.assertEqual(day_of("gregorian", (told.year, told.month, told.day)), day)

    def test_told_days(self):
        self.assertEqual(day_of("gregorian", (1, 1, 1)), 1)
        self.assertEqual(day_of("gregorian", (0, 12, 31)), 0)
        self.assertEqual(day_of("gregorian", (0, 2, 29)), -306)
        self.assertEqual(day_of("julian", (1, 1, 1)), -1)
        self.assertEqual(day_of("julian", (0, 12, 31)), -2)
        self.assertEqual(day_of("julian", (1582, 10, 4)) + 1, day_of("gregorian", (1582, 10, 15)))
        self.assertEqual(date_of("julian", day_of("gregorian", (1900, 3, 13))), (1900, 2, 29))
        self.assertEqual(day_of("julian", (-4712, 1, 1)), -1721425)

    def test_each_year(self):
        for calendar in ("gregorian", "julian"):
            next_day = day_of(calendar, (-10000, 1, 1))
            for year in range(-10000, 10001):
                self.assertEqual(day_of(calendar, (year, 1, 1)), next_day)
                self.assertEqual(date_of(calendar, next_day), (year, 1, 1))
                next_day += 366 if is_leap(calendar, year) else 365
                self.assertEqual(day_of(calendar, (year, 12, 31)), next_day - 1)
                self.assertEqual(date_of(calendar, next_day - 1), (year, 12, 31))

    def test_each_day_of_some_years(self):
        for calendar in ("gregorian", "julian"):
            for year in [-10000, -401, -400, -100, -4, -1, 0, 1, 4, 100, 1900, 2000, 2023, 2024, 2100, 10000]:
                day = day_of(calendar, (year, 1, 1))
                for month, length in enumerate(MONTHS, 1):
                    length += month == 2 and is_leap(calendar, year)
                    for number in range(1, length + 1):
                        self.assertEqual(day_of(calendar, (year, month, number)), day)
                        self.assertEqual(date_of(calendar, day), (year, month, number))
                        day += 1
                    with self.assertRaises(DateError):
                        day_of(calendar, (year, month, length + 1))

    def test_there_and_back(self):
        days = [-4000000, -3999999, 3999999, 4000000, *range(-4000000, 4000001, 1409), *range(-800, 800)]
        for calendar in CALENDARS:
            for day in days:
                date = date_of(calendar, day)
                if abs(date[0]) <= 10000:
                    self.assertEqual(day_of(calendar, date), day)
                else:
                    with self.assertRaises(DateError) as caught:
                        day_of(calendar, date)
                    self.assertEqual(caught.exception.code, "year")

    def test_dates_ascend(self):
        for calendar in CALENDARS:
            for first in (-4000000, -200, 3999800):
                dates = [date_of(calendar, day) for day in range(first, first + 201)]
                self.assertEqual(dates, sorted(set(dates)))

    def test_years_beyond(self):
        self.assertEqual(date_of("gregorian", 4000000), (10952, 8, 17))
        self.assertEqual(date_of("gregorian", day_of("gregorian", (-10000, 1, 1)) - 1), (-10001, 12, 31))
        self.assertEqual(date_of((-4000000, ((1,),)), 4000000), (8000001, 1, 1))

    def test_cycle(self):
        dates = [(1, 1, 1), (1, 1, 4), (1, 2, 1), (1, 2, 5), (2, 1, 1), (2, 2, 1), (2, 3, 1), (2, 3, 19), (3, 1, 1),
                 (3, 2, 1), (4, 1, 1), (0, 2, 1), (0, 1, 1), (-1, 3, 19), (-2, 1, 1)]
        days = [100, 103, 104, 108, 109, 119, 120, 138, 139, 140, 141, 99, 98, 97, 59]
        for date, day in zip(dates, days):
            self.assertEqual(day_of(CYCLE, date), day)
            self.assertEqual(date_of(CYCLE, day), date)


class Wrong(unittest.TestCase):
    def fault(self, calendar, date):
        try:
            day_of(calendar, date)
        except DateError as error:
            return error.code
        return None

    def test_edges(self):
        for calendar in ("gregorian", "julian"):
            for year, code in [(-10000, None), (10000, None), (-10001, "year"), (10001, "year")]:
                self.assertEqual(self.fault(calendar, (year, 1, 1)), code)
            for month, code in [(0, "month"), (1, None), (12, None), (13, "month"), (-1, "month")]:
                self.assertEqual(self.fault(calendar, (5, month, 1)), code)
            for day, code in [(0, "day"), (1, None), (28, None), (29, "day"), (-1, "day")]:
                self.assertEqual(self.fault(calendar, (5, 2, day)), code)

    def test_leap_days(self):
        for year, gregorian, julian in [(1900, "day", None), (2000, None, None), (2023, "day", "day"), (0, None, None),
                                        (-100, "day", None), (-400, None, None), (-4, None, None)]:
            self.assertEqual(self.fault("gregorian", (year, 2, 29)), gregorian)
            self.assertEqual(self.fault("julian", (year, 2, 29)), julian)

    def test_cycles(self):
        self.assertEqual(self.fault(CYCLE, (1, 3, 1)), "month")
        self.assertEqual(self.fault(CYCLE, (2, 3, 19)), None)
        self.assertEqual(self.fault(CYCLE, (2, 3, 20)), "day")
        self.assertEqual(self.fault(CYCLE, (10001, 1, 1)), "year")
        self.assertEqual(self.fault(CYCLE, (-10000, 1, 1)), None)

    def test_the_first_fault(self):
        self.assertEqual(self.fault("julian", (10001, 0, 0)), "year")
        self.assertEqual(self.fault("julian", (1, 13, 32)), "month")


if __name__ == "__main__":
    unittest.main()
