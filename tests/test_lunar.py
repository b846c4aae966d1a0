"""Points 33 and 34."""

import random
import unittest

from truealmanac.errors import LunarError, SkyError
from truealmanac.events import phases, seasons
from truealmanac.lunar import MoonTable, moon_table
import samples


def plain_dates(months, springs):
    """A dict from days to dates, made day by day."""
    found = {}
    year = month = 0
    for begin, end in zip(months, months[1:]):
        if any(begin <= spring < end for spring in springs):
            year, month = year + 1, 0
        month += 1
        for day in range(begin, end):
            if year > 0:
                found[day] = (year, month, day - begin + 1)
    return found


class Tables(unittest.TestCase):
    def same(self, table, months, springs):
        dates = plain_dates(months, springs)
        for day in range(months[0] - 40, months[-1] + 40):
            if day in dates:
                self.assertEqual(table.date(day), dates[day])
                self.assertEqual(table.day(dates[day]), day)
            else:
                self.wrong("day", table.date, day)
        known = set(dates.values())
        last = max([date[0] for date in known], default=0)
        self.assertEqual(table.years(), last)
        for year in range(-1, last + 2):
            for month in range(-1, 16):
                for day in (-1, 0, 1, 28, 29, 30, 31, 32, 60):
                    if (year, month, day) not in known:
                        self.wrong("date", table.day, (year, month, day))

    def wrong(self, code, call, argument):
        with self.assertRaises(LunarError) as caught:
            call(argument)
        self.assertEqual(caught.exception.code, code)

    def test_told_table(self):
        table = MoonTable([10, 40, 69, 99, 128], [5, 40, 98])
        self.assertEqual(table.years(), 2)
        self.assertEqual([table.date(day) for day in (40, 68, 69, 98)], [(1, 1, 1), (1, 1, 29), (2, 1, 1), (2, 1, 30)])
        self.same(MoonTable([10, 40, 69, 99, 128], [5, 40, 98]), [10, 40, 69, 99, 128], [5, 40, 98])

    def test_springs_ahead_in_and_behind(self):
        months = [100, 130, 159, 189]
        for springs in [[], [99], [100], [129], [130], [158], [159], [188], [189], [200], [99, 189], [100, 188],
                        [1, 140, 500], [130, 158], [105, 106, 107, 160], [131, 131]]:
            self.same(MoonTable(months, springs), months, springs)

    def test_two_springs_in_one_month(self):
        table = MoonTable([0, 30, 60], [3, 4])
        self.assertEqual(table.years(), 1)
        self.assertEqual(table.date(59), (1, 2, 30))

    def test_two_months_are_enough(self):
        self.same(MoonTable([7, 37], [20]), [7, 37], [20])
        self.wrong("day", MoonTable([7, 37], []).date, 20)

    def test_random_tables(self):
        rng = random.Random(33)
        for _ in range(40):
            months = sorted(rng.sample(range(-300, 300), rng.randint(2, 14)))
            springs = sorted(rng.choices(range(-350, 350), k=rng.randint(0, 6)))
            self.same(MoonTable(months, springs), months, springs)

    def test_lists_are_not_kept(self):
        months, springs = [100, 130, 159, 189], [135]
        table = MoonTable(months, springs)
        months.clear()
        springs.clear()
        self.assertEqual((table.date(130), table.years()), ((1, 1, 1), 1))


class TablesOfSkies(unittest.TestCase):
    def setUp(self):
        self.sky = samples.sky()
        # The moon passes the sun in about 5 days, the year has about 25 days.
        self.sky["bodies"]["sun"]["motion"] = (1000, 36, 1)
        self.sky["bodies"]["moon"]["motion"] = (-5000, 1296000, 6000)

    def plain_days(self, events, kind):
        return sorted({t // 1440 for t, k, _ in events if k == kind})

    def test_months_and_springs(self):
        for start, end in [(0, 300000), (-250000, 1000)]:
            months = self.plain_days(phases(self.sky, "moon", "sun", start, end), "phase0")
            springs = self.plain_days(seasons(self.sky, "sun", start, end), "season0")
            self.assertTrue(len(months) > 20 and len(springs) > 4)
            table = moon_table(self.sky, "moon", "sun", start, end)
            dates = plain_dates(months, springs)
            for day in range(months[0] - 3, months[-1] + 3):
                if day in dates:
                    self.assertEqual(table.date(day), dates[day])
                else:
                    with self.assertRaises(LunarError):
                        table.date(day)
            self.assertEqual(table.years(), max(date[0] for date in dates.values()))

    def test_one_day_with_several_months(self):
        sky = samples.sky()
        months = self.plain_days(phases(sky, "moon", "sun", 0, 20000), "phase0")
        self.assertLess(len(months), 15)
        table = moon_table(sky, "moon", "sun", 0, 20000)
        self.assertEqual(table.date(months[-2])[2], 1)

    def test_too_few_months(self):
        ticks = [t for t, kind, _ in phases(self.sky, "moon", "sun", 0, 60000) if kind == "phase0"]
        self.assertNotEqual(ticks[0] // 1440, ticks[1] // 1440)
        for start, end in [(0, 0), (0, ticks[0]), (ticks[0] - 1, ticks[1] - 1), (ticks[0], ticks[1])]:
            with self.assertRaises(LunarError) as caught:
                moon_table(self.sky, "moon", "sun", start, end)
            self.assertEqual(caught.exception.code, "months")
        moon_table(self.sky, "moon", "sun", ticks[0] - 1, ticks[1])

    def test_unknown_bodies(self):
        for moon, sun, name in [("venus", "sun", "venus"), ("moon", "venus", "venus"), ("pluto", "venus", "pluto")]:
            with self.assertRaises(SkyError) as caught:
                moon_table(self.sky, moon, sun, 0, 0)
            self.assertEqual((caught.exception.code, caught.exception.name), ("body", name))


if __name__ == "__main__":
    unittest.main()
