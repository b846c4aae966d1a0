"""Point 57."""

import random
import unittest

from truealmanac.calendars import date_of, day_of, months_of, weekday
from truealmanac.recurrences import next_day, occurrences, occurs


def occurs_as_told(recurrence, day):
    word, start, n, *more = recurrence
    if day < start:
        return False
    if word == "days":
        return (day - start) % n == 0
    if word == "weeks":
        monday, start_monday = day - weekday(day), start - weekday(start)
        return weekday(day) in more[0] and (monday - start_monday) // 7 % n == 0
    year, month, number = date_of("gregorian", day)
    start_year, start_month, _ = date_of("gregorian", start)
    wanted = more[0] if more[0] > 0 else months_of("gregorian", year)[month - 1]
    return number == wanted and ((year - start_year) * 12 + month - start_month) % n == 0


def random_recurrence(rng, start):
    word = rng.choice(["days", "weeks", "months"])
    n = rng.choice([1, 1, 2, 3, 5, 12, 17, 400])
    if word == "days":
        return (word, start, n)
    if word == "weeks":
        return (word, start, n, tuple(sorted(rng.sample(range(7), rng.randint(1, 7)))))
    return (word, start, n, rng.choice([0, 1, 15, 28, 29, 30, 31]))


class Recurrences(unittest.TestCase):
    def test_days(self):
        self.assertEqual(occurrences(("days", 5, 3), 0, 15), [5, 8, 11, 14])
        self.assertEqual(occurrences(("days", 5, 1), 4, 8), [5, 6, 7, 8])
        self.assertEqual(occurrences(("days", -5, 400), -6, 800), [-5, 395, 795])

    def test_weeks_that_begin_in_the_middle(self):
        # Day 3 is a Wednesday; the Monday of its week is before the start.
        self.assertEqual(occurrences(("weeks", 3, 1, (0, 2, 6)), -5, 20), [3, 7, 8, 10, 14, 15, 17])
        self.assertEqual(occurrences(("weeks", 3, 2, (0, 2)), -5, 31), [3, 15, 17, 29, 31])
        self.assertEqual(occurrences(("weeks", 7, 2, (0, 6)), 0, 40), [7, 15, 21, 29, 35])
        self.assertEqual(occurrences(("weeks", 3, 400, (1,)), 0, 6000), [2802, 5602])

    def test_months(self):
        # Day 1 is 1 January of the year 1.
        self.assertEqual(occurrences(("months", 1, 1, 31), 1, 150), [31, 90, 151][:2])
        self.assertEqual(occurrences(("months", 1, 1, 0), 1, 150), [31, 59, 90, 120])
        self.assertEqual(occurrences(("months", 20, 1, 15), 1, 80), [46, 74])
        self.assertEqual(occurrences(("months", 15, 1, 15), 1, 80), [15, 46, 74])
        leap_days = [date_of("gregorian", day) for day in occurrences(("months", 32, 12, 29), 1, 5000)]
        self.assertEqual(leap_days, [(4, 2, 29), (8, 2, 29), (12, 2, 29)])
        self.assertEqual(len(occurrences(("months", 1, 400, 1), 1, 12500)), 2)

    def test_against_each_day(self):
        rng = random.Random(57)
        for _ in range(200):
            start = rng.randint(-800, 800) + rng.choice([0, 730000])
            recurrence = random_recurrence(rng, start)
            first = start + rng.randint(-100, 1500)
            last = first + rng.choice([-1, 0, 40, 900])
            told = [day for day in range(first, last + 1) if occurs_as_told(recurrence, day)]
            self.assertEqual(occurrences(recurrence, first, last), told, recurrence)
            for day in range(start - 10, start + 45):
                self.assertIs(occurs(recurrence, day), occurs_as_told(recurrence, day))

    def test_empty_spaces(self):
        for recurrence in [("days", 5, 3), ("weeks", 5, 1, (0,)), ("months", 5, 1, 0)]:
            self.assertEqual(occurrences(recurrence, 100, 99), [])
            self.assertEqual(occurrences(recurrence, -50, 4), [])

    def test_ends_of_the_days(self):
        for recurrence in [("days", -4000000, 7), ("weeks", -4000000, 1, (2,)), ("months", -4000000, 1, 0)]:
            for first, last in [(-4000000, -3999900), (3999900, 4000000)]:
                told = [day for day in range(first, last + 1) if occurs_as_told(recurrence, day)]
                self.assertTrue(told)
                self.assertEqual(occurrences(recurrence, first, last), told)


class NextDays(unittest.TestCase):
    def test_against_each_day(self):
        rng = random.Random(58)
        for _ in range(150):
            start = rng.randint(-800, 800)
            recurrence = random_recurrence(rng, start)
            day = start + rng.randint(-300, 300)
            later = [x for x in range(day + 1, day + 1500) if occurs_as_told(recurrence, x)]
            if later:
                self.assertEqual(next_day(recurrence, day), later[0])
            else:
                found = next_day(recurrence, day)
                self.assertTrue(found is None or found >= day + 1500)

    def test_the_farthest_one(self):
        for recurrence in [("days", 5, 3), ("weeks", 5, 1, (4,)), ("months", 5, 1, 5)]:
            self.assertTrue(occurs(recurrence, 5))
            self.assertEqual(next_day(recurrence, 4), 5)
            self.assertEqual(next_day(recurrence, 5 - 200000), 5)
            self.assertIsNone(next_day(recurrence, 5 - 200001))
            self.assertGreater(next_day(recurrence, 5), 5)

    def test_days_that_never_come(self):
        # Day 32 is 1 February.
        self.assertIsNone(next_day(("months", 32, 12, 30), 40))
        self.assertEqual(date_of("gregorian", next_day(("months", 32, 12, 29), 40)), (4, 2, 29))
        # Each fourth February: 1900 was no leap year.
        start = day_of("gregorian", (1896, 2, 29))
        self.assertEqual(next_day(("months", start, 48, 29), start), day_of("gregorian", (1904, 2, 29)))


if __name__ == "__main__":
    unittest.main()
