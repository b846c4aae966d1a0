"""Point 68."""

import random
import unittest

from truealmanac.calendars import date_of, day_of
from truealmanac.reforms import days_of, full_date

# Thursday, 4 October 1582 (Julian) was followed by Friday, 15 October 1582 (Gregorian).
REFORM_DAY = 577736
ROME = ("julian", ((REFORM_DAY, "gregorian"),))
BACK = ("gregorian", ((REFORM_DAY, "julian"),))
WEEKS = (5, ((7, 7), (7,)))


def full_date_as_told(reform, day):
    counting = [reform[0]] + [calendar for begin, calendar in reform[1] if begin <= day]
    return (len(counting) - 1, date_of(counting[-1], day))


def days_as_told(reform, date, first, last):
    return [day for day in range(first, last + 1) if full_date_as_told(reform, day)[1] == date]


class FullDates(unittest.TestCase):
    def test_no_change(self):
        for calendar in ("gregorian", "julian", WEEKS):
            for day in (-4000000, -1, 0, 1, 5, 700000, 4000000):
                self.assertEqual(full_date((calendar, ()), day), (0, date_of(calendar, day)))

    def test_one_change(self):
        self.assertEqual(full_date(ROME, REFORM_DAY - 1), (0, (1582, 10, 4)))
        self.assertEqual(full_date(ROME, REFORM_DAY), (1, (1582, 10, 15)))
        self.assertEqual(full_date(ROME, -4000000)[0], 0)
        self.assertEqual(full_date(ROME, 4000000), (1, date_of("gregorian", 4000000)))
        self.assertEqual(full_date(BACK, REFORM_DAY - 1), (0, (1582, 10, 14)))
        self.assertEqual(full_date(BACK, REFORM_DAY), (1, (1582, 10, 5)))

    def test_ten_changes(self):
        calendars = ["julian", WEEKS, "gregorian"]
        reform = ("gregorian", tuple((100 * k, calendars[k % 3]) for k in range(10)))
        for day in range(-50, 1100):
            self.assertEqual(full_date(reform, day), full_date_as_told(reform, day))
        self.assertEqual(full_date(reform, 899)[0], 9)
        self.assertEqual(full_date(reform, 900)[0], 10)


class DaysOfDates(unittest.TestCase):
    def test_no_change(self):
        for calendar in ("gregorian", "julian", WEEKS):
            for day in (-4000000, -1, 0, 1, 5, 700000, 4000000):
                self.assertEqual(days_of((calendar, ()), date_of(calendar, day)), [day])

    def test_a_date_that_is_left_out(self):
        for number in range(5, 15):
            self.assertEqual(days_of(ROME, (1582, 10, number)), [])
        self.assertEqual(days_of(ROME, (1582, 10, 4)), [REFORM_DAY - 1])
        self.assertEqual(days_of(ROME, (1582, 10, 15)), [REFORM_DAY])
        # 1500 is a leap year in the Julian calendar only, 1900 in none here.
        self.assertEqual(days_of(ROME, (1500, 2, 29)), [day_of("julian", (1500, 2, 29))])
        self.assertEqual(days_of(ROME, (1900, 2, 29)), [])

    def test_a_date_that_comes_twice(self):
        for number in range(5, 15):
            first = REFORM_DAY - 15 + number
            self.assertEqual(days_of(BACK, (1582, 10, number)), [first, first + 10])
        self.assertEqual(days_of(BACK, (1582, 10, 4)), [REFORM_DAY - 11])
        self.assertEqual(days_of(BACK, (1582, 10, 15)), [REFORM_DAY + 10])

    def test_no_dates(self):
        for date in [(1582, 13, 1), (1582, 0, 1), (1582, -1, 1), (1582, 2, 30), (1582, 1, 0), (1582, 1, 32),
                     (2000, 4, 31), (1582, 1, -5)]:
            for reform in (ROME, BACK, ("julian", ()), ("gregorian", ((5, WEEKS), (900, "julian")))):
                self.assertEqual(days_of(reform, date), [], date)
        # A third month is in neither year of this cycle, a second one in every other year.
        self.assertEqual(days_of((WEEKS, ()), (1, 3, 1)), [])
        self.assertEqual(days_of((WEEKS, ()), (1, 2, 1)), [12])
        self.assertEqual(days_of((WEEKS, ()), (2, 2, 1)), [])

    def test_against_each_day(self):
        rng = random.Random(68)
        calendars = ["julian", "gregorian", WEEKS, (0, ((3, 4, 5), (2,))), (-40, ((10,),))]
        for _ in range(40):
            begins = sorted(rng.sample(range(-60, 120), rng.randint(0, 10)))
            reform = (rng.choice(calendars), tuple((begin, rng.choice(calendars)) for begin in begins))
            # All dates that these calendars have on some days.
            dates = sorted({date_of(calendar, day) for calendar in calendars for day in range(-5, 100, 9)})
            for date in rng.sample(dates, 15):
                found = [day for day in days_of(reform, date) if -300 <= day <= 400]
                self.assertEqual(found, days_as_told(reform, date, -300, 400))

    def test_several_times(self):
        # Each change leads back, so that the days 1 to 3 of month 1 come again and again.
        reform = ((0, ((400,),)), tuple((3 * k, (3 * k, ((400,),))) for k in range(1, 11)))
        self.assertEqual(days_of(reform, (1, 1, 2)), [3 * k + 1 for k in range(11)])
        self.assertEqual(days_of(reform, (1, 1, 4)), [33])
        self.assertEqual(full_date(reform, 31), (10, (1, 1, 2)))

    def test_there_and_back(self):
        rng = random.Random(69)
        reforms = [ROME, BACK, ("julian", ((0, WEEKS), (100000, "gregorian"), (600000, (5, ((400, 1),)))))]
        for _ in range(400):
            day = rng.randint(-4000000, 4000000)
            for reform in reforms:
                index, date = full_date(reform, day)
                self.assertEqual((index, date), full_date_as_told(reform, day))
                self.assertIn(day, days_of(reform, date))

    def test_the_first_and_last_days(self):
        for calendar in ("gregorian", "julian"):
            for day, beside in [(-4000000, -4000001), (4000000, 4000001)]:
                self.assertEqual(days_of((calendar, ()), date_of(calendar, day)), [day])
                self.assertEqual(days_of((calendar, ()), date_of(calendar, beside)), [])
        # These years are beyond those of point 32, but days have their dates.
        self.assertEqual(days_of(("gregorian", ()), (10001, 1, 1)), [3652426])
        self.assertEqual(days_of(("gregorian", ()), (10 ** 20, 1, 1)), [])
        short = (0, ((1,),))
        self.assertEqual(days_of((short, ()), (3999999, 1, 1)), [3999998])
        self.assertEqual(days_of((short, ()), (4000001, 1, 1)), [4000000])
        self.assertEqual(days_of((short, ()), (4000002, 1, 1)), [])
        # A change on the last day, and one on the first.
        self.assertEqual(full_date(("julian", ((4000000, "gregorian"),)), 4000000)[0], 1)
        self.assertEqual(days_of(("julian", ((4000000, "gregorian"),)), date_of("gregorian", 4000000)), [4000000])
        self.assertEqual(days_of(("julian", ((-4000000, "gregorian"),)), date_of("gregorian", -4000000)), [-4000000])
        # The Julian date of the first day comes later in the Gregorian calendar, which counts from this day on.
        late = ("julian", ((-4000000, "gregorian"),))
        told = days_as_told(late, date_of("julian", -4000000), -4000000, -3999000)
        self.assertEqual(days_of(late, date_of("julian", -4000000)), told)
        self.assertEqual(days_of(late, date_of("gregorian", -4000001)), [])
        # On days that are none, nothing counts.
        early = ("julian", ((-5000000, "gregorian"), (-4000500, "julian")))
        self.assertEqual(days_of(early, date_of("julian", -4000000)), [-4000000])
        self.assertEqual(days_of(early, date_of("gregorian", -4000600)), [])


if __name__ == "__main__":
    unittest.main()
