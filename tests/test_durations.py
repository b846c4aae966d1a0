"""Point 53."""

import random
import unittest

from truealmanac.calendars import date_of, day_of, months_of
from truealmanac.durations import add, difference
from truealmanac.errors import DateError
from plain import error_of

CALENDARS = ("gregorian", "julian")


def add_as_told(calendar, date, duration):
    """By walking month by month and day by day."""
    year, month, number = date
    months, days = duration
    for _ in range(abs(months)):
        month += 1 if months > 0 else -1
        if month == 13:
            year, month = year + 1, 1
        if month == 0:
            year, month = year - 1, 12
    number = min(number, months_of(calendar, year)[month - 1])
    for _ in range(abs(days)):
        number += 1 if days > 0 else -1
        if number == 0:
            month -= 1
            if month == 0:
                year, month = year - 1, 12
            number = months_of(calendar, year)[month - 1]
        if number > months_of(calendar, year)[month - 1]:
            month, number = month + 1, 1
            if month == 13:
                year, month = year + 1, 1
    return (year, month, number)


class Adding(unittest.TestCase):
    def test_ends_of_months(self):
        for date, months, told in [
            ((2023, 1, 31), 1, (2023, 2, 28)), ((2024, 1, 31), 1, (2024, 2, 29)), ((2024, 2, 29), 12, (2025, 2, 28)),
            ((2024, 2, 29), 48, (2028, 2, 29)), ((2023, 3, 31), -1, (2023, 2, 28)), ((2023, 3, 31), 1, (2023, 4, 30)),
            ((2023, 12, 31), 2, (2024, 2, 29)), ((2024, 2, 29), -48, (2020, 2, 29)), ((1, 1, 1), -1, (0, 12, 1)),
            ((0, 2, 29), -1200, (-100, 2, 28)), ((2024, 5, 31), 0, (2024, 5, 31)), ((2023, 11, 5), 14, (2025, 1, 5)),
        ]:
            self.assertEqual(add("gregorian", date, (months, 0)), told)
        self.assertEqual(add("julian", (1900, 1, 31), (1, 0)), (1900, 2, 29))
        self.assertEqual(add("gregorian", (1900, 1, 31), (1, 0)), (1900, 2, 28))

    def test_months_come_first(self):
        self.assertEqual(add("gregorian", (2023, 1, 31), (1, 1)), (2023, 3, 1))
        self.assertEqual(add("gregorian", (2023, 3, 31), (-1, -28)), (2023, 1, 31))
        self.assertEqual(add("gregorian", (2023, 1, 31), (1, -31)), (2023, 1, 28))
        self.assertEqual(add("gregorian", (2023, 1, 1), (0, 365)), (2024, 1, 1))

    def test_against_walking(self):
        rng = random.Random(53)
        for _ in range(300):
            calendar = rng.choice(CALENDARS)
            date = date_of(calendar, rng.randint(-3000, 800000))
            if rng.random() < 0.5:
                date = (*date[:2], months_of(calendar, date[0])[date[1] - 1])
            duration = (rng.randint(-40, 40), rng.randint(-400, 400))
            self.assertEqual(add(calendar, date, duration), add_as_told(calendar, date, duration))

    def test_ends_of_the_years(self):
        self.assertEqual(add("gregorian", (-10000, 1, 1), (240011, 30)), (10000, 12, 31))
        self.assertEqual(add("julian", (10000, 12, 31), (-240011, -30)), (-10000, 1, 1))

    def test_dates_that_are_none(self):
        for calendar in CALENDARS:
            for date, code in [((10001, 1, 1), "year"), ((-10001, 1, 1), "year"), ((5, 13, 1), "month"),
                               ((5, 0, 1), "month"), ((5, 2, 29), "day"), ((5, 1, 0), "day"), ((5, 1, 32), "day")]:
                self.assertEqual(error_of(DateError, add, calendar, date, (1, 1)), {"code": code})
        self.assertEqual(error_of(DateError, add, "gregorian", (1900, 2, 29), (0, 0)), {"code": "day"})
        self.assertEqual(add("julian", (1900, 2, 29), (0, 0)), (1900, 2, 29))


class Differences(unittest.TestCase):
    def test_known_ones(self):
        for first, second, told in [
            ((2023, 1, 31), (2023, 2, 28), (1, 0)), ((2023, 1, 31), (2023, 3, 1), (1, 1)),
            ((2023, 1, 31), (2023, 3, 30), (1, 30)), ((2023, 1, 31), (2023, 3, 31), (2, 0)),
            ((2024, 2, 29), (2025, 2, 28), (12, 0)), ((2024, 2, 29), (2028, 2, 28), (47, 30)),
            ((2024, 2, 29), (2028, 2, 29), (48, 0)), ((2023, 5, 6), (2023, 5, 6), (0, 0)),
            ((2023, 12, 31), (2024, 1, 1), (0, 1)), ((-1, 12, 31), (1, 1, 1), (12, 1)),
        ]:
            self.assertEqual(difference("gregorian", first, second), told)

    def test_against_walking(self):
        rng = random.Random(54)
        for _ in range(300):
            calendar = rng.choice(CALENDARS)
            day = rng.randint(-3000, 800000)
            end = day + rng.choice([0, 1, 27, 28, 29, 30, 31, 60, rng.randint(0, 3000)])
            first, second = date_of(calendar, day), date_of(calendar, end)
            months = 0
            while day_of(calendar, add_as_told(calendar, first, (months + 1, 0))) <= end:
                months += 1
            days = end - day_of(calendar, add_as_told(calendar, first, (months, 0)))
            self.assertEqual(difference(calendar, first, second), (months, days))

    def test_adding_gives_the_second_date(self):
        rng = random.Random(55)
        for calendar in CALENDARS:
            low, high = day_of(calendar, (-10000, 1, 1)), day_of(calendar, (10000, 12, 31))
            for _ in range(300):
                first = rng.choice([low, rng.randint(low, high)])
                second = rng.choice([high, rng.randint(first, min(high, first + 2000))])
                dates = date_of(calendar, first), date_of(calendar, second)
                months, days = difference(calendar, *dates)
                self.assertTrue(months >= 0 and 0 <= days <= 30)
                self.assertEqual(add(calendar, dates[0], (months, days)), dates[1])

    def test_dates_that_are_none(self):
        for first, second, code in [
            ((5, 13, 1), (10001, 1, 1), "month"), ((5, 2, 29), (10001, 1, 1), "day"),
            ((5, 2, 28), (10001, 1, 1), "year"),
            ((5, 2, 28), (6, 0, 1), "month"), ((5, 2, 28), (6, 2, 29), "day"), ((-10001, 0, 0), (6, 2, 1), "year"),
        ]:
            self.assertEqual(error_of(DateError, difference, "julian", first, second), {"code": code})


if __name__ == "__main__":
    unittest.main()
