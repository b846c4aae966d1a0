"""Points 35, 36 and 37."""

import random
import unittest
from datetime import date as python_date

from truealmanac.errors import ZoneError
from truealmanac.zones import check_zone, local, offsets_in, ruled_zone, ticks_of
from plain import plain_local


def fault(call, *arguments):
    try:
        call(*arguments)
    except ZoneError as error:
        return error.code
    return None


class Zones(unittest.TestCase):
    def test_right_zones(self):
        for zone in [(0, ()), (-1500, ((5, 1500),)), (1500, ((-5, 0), (-4, 0)))]:
            self.assertIsNone(check_zone(zone))

    def test_size(self):
        changes = tuple((k, k % 2) for k in range(401))
        self.assertIsNone(fault(check_zone, (0, changes[:400])))
        self.assertEqual(fault(check_zone, (0, changes)), "size")

    def test_offsets(self):
        for offset, code in [(-1500, None), (1500, None), (-1501, "offset"), (1501, "offset")]:
            self.assertEqual(fault(check_zone, (offset, ())), code)
            self.assertEqual(fault(check_zone, (0, ((3, 0), (4, offset)))), code)
            self.assertEqual(fault(check_zone, (0, ((3, offset), (4, 0)))), code)

    def test_order(self):
        self.assertEqual(fault(check_zone, (0, ((4, 0), (4, 1)))), "order")
        self.assertEqual(fault(check_zone, (0, ((1, 0), (4, 0), (3, 1)))), "order")

    def test_order_of_the_codes(self):
        self.assertEqual(fault(check_zone, (1501, ((4, 0),) * 401)), "size")
        self.assertEqual(fault(check_zone, (0, ((4, 0), (4, 1501)))), "offset")
        self.assertEqual(fault(check_zone, (1501, ((4, 0), (4, 1)))), "offset")


class LocalTimes(unittest.TestCase):
    def test_no_change(self):
        self.assertEqual(local((60, ()), -100), -40)
        self.assertEqual(ticks_of((60, ()), -40), [-100])

    def test_from_the_change_on(self):
        zone = (60, ((1000, 120), (2000, -30)))
        self.assertEqual([local(zone, t) for t in (999, 1000, 1999, 2000)], [1059, 1120, 2119, 1970])

    def test_gap(self):
        zone = (60, ((1000, 120),))
        self.assertEqual([ticks_of(zone, time) for time in (1059, 1060, 1119, 1120)], [[999], [], [], [1000]])

    def test_fold(self):
        zone = (120, ((1000, 60),))
        self.assertEqual([ticks_of(zone, time) for time in (1059, 1060, 1119, 1120)],
                         [[939], [940, 1000], [999, 1059], [1060]])

    def test_overlapping_folds(self):
        zone = (100, ((1000, 50), (1030, 30)))
        self.assertEqual([ticks_of(zone, time) for time in (1049, 1050, 1059, 1060, 1079, 1080, 1099, 1100)],
                         [[949], [950, 1000], [959, 1009], [960, 1010, 1030], [979, 1029, 1049], [980, 1050],
                          [999, 1069], [1070]])

    def test_gaps_side_by_side(self):
        zone = (0, ((1000, 50), (1010, 100)))
        self.assertEqual([ticks_of(zone, time) for time in (999, 1000, 1049, 1050, 1059, 1060, 1109, 1110)],
                         [[999], [], [], [1000], [1009], [], [], [1010]])

    def test_gap_within_a_fold(self):
        zone = (100, ((1000, 0), (1010, 50)))
        self.assertEqual([ticks_of(zone, time) for time in (1009, 1010, 1059, 1060, 1099, 1100)],
                         [[909, 1009], [910], [959], [960, 1010], [999, 1049], [1050]])

    def test_against_every_tick(self):
        rng = random.Random(35)
        for _ in range(120):
            ticks = sorted(rng.sample(range(-60, 60), rng.randint(0, 8)))
            zone = (rng.randint(-50, 50), tuple((t, rng.randint(-50, 50)) for t in ticks))
            known = {}
            for tick in range(-300, 300):
                self.assertEqual(local(zone, tick), plain_local(zone, tick))
                known.setdefault(plain_local(zone, tick), []).append(tick)
            for time in range(-200, 200):
                self.assertEqual(ticks_of(zone, time), known.get(time, []))

    def test_many_changes(self):
        zone = (1500, tuple((10 * k, -1500 if k % 2 else 1500) for k in range(400)))
        for tick in range(-5, 4005):
            self.assertEqual(local(zone, tick), plain_local(zone, tick))


class Rules(unittest.TestCase):
    def plain_tick(self, rule, year):
        """The tick of a rule by a walk through the days of the month."""
        month, week, wanted, minute, _ = rule
        days = []
        for number in range(1, 32):
            try:
                day = python_date(year, month, number)
            except ValueError:
                break
            if day.weekday() == wanted:
                days.append(day.toordinal())
        return (days[-1] if week == 5 else days[week - 1]) * 1440 + minute

    def test_known_zone(self):
        rules = [(10, 5, 6, 60, 60), (3, 5, 6, 60, 120)]
        told = []
        for month, day, offset in [(3, 31, 120), (10, 27, 60)]:
            told.append((python_date(2024, month, day).toordinal() * 1440 + 60, offset))
        self.assertEqual(ruled_zone(60, rules, 2024, 2024), (60, tuple(told)))

    def test_each_week_and_weekday(self):
        for month in range(1, 13):
            for week in range(1, 6):
                for wanted in range(7):
                    rule = (month, week, wanted, (month * week * 17) % 1440, week)
                    changes = tuple((self.plain_tick(rule, year), week) for year in range(2000, 2009))
                    self.assertEqual(ruled_zone(0, [rule], 2000, 2008), (0, changes))

    def test_several_rules_and_years(self):
        rules = [(11, 1, 0, 0, 0), (2, 5, 3, 1439, -60), (1, 1, 0, 720, 45), (12, 4, 6, 7, 1500)]
        for first, last in [(1, 100), (1950, 1950), (9900, 9999)]:
            told = sorted((self.plain_tick(rule, year), rule[4]) for rule in rules for year in range(first, last + 1))
            self.assertEqual(ruled_zone(-1500, rules, first, last), (-1500, tuple(told)))
            self.assertLessEqual(len(told), 400)

    def test_no_rules(self):
        self.assertEqual(ruled_zone(30, [], 2000, 2099), (30, ()))

    def test_rules_that_make_no_zone(self):
        rule = (3, 1, 0, 60, 120)
        self.assertEqual(fault(ruled_zone, 0, [rule, rule], 2000, 2000), "order")
        self.assertEqual(fault(ruled_zone, 0, [rule, (3, 1, 0, 60, 0)], 2000, 2000), "order")
        self.assertEqual(fault(ruled_zone, 1501, [rule], 2000, 2000), "offset")
        self.assertEqual(fault(ruled_zone, 0, [(3, 1, 0, 60, -1501)], 2000, 2000), "offset")
        self.assertEqual(fault(ruled_zone, 1501, [], 2000, 2000), "offset")
        self.assertEqual(fault(ruled_zone, 0, [(3, 1, 0, 60, 1501), rule], 2000, 2000), "offset")
        # The last Monday of February is its fourth one, but for leap years that begin it on a Monday.
        both = [(2, 4, 0, 60, 0), (2, 5, 0, 60, 60)]
        self.assertEqual(fault(ruled_zone, 0, both, 2023, 2023), "order")
        self.assertEqual(python_date(2016, 2, 1).weekday(), 0)
        self.assertIsNone(fault(ruled_zone, 0, both, 2016, 2016))


class CutSpans(unittest.TestCase):
    def test_parts(self):
        zone = (5, ((10, 60), (20, -60), (21, 0)))
        self.assertEqual(offsets_in(zone, 0, 30), [(0, 9, 5), (10, 19, 60), (20, 20, -60), (21, 30, 0)])
        self.assertEqual(offsets_in(zone, 10, 20), [(10, 19, 60), (20, 20, -60)])
        self.assertEqual(offsets_in(zone, 11, 19), [(11, 19, 60)])
        self.assertEqual(offsets_in(zone, 9, 9), [(9, 9, 5)])
        self.assertEqual(offsets_in(zone, 10, 10), [(10, 10, 60)])
        self.assertEqual(offsets_in(zone, 50, 90), [(50, 90, 0)])
        self.assertEqual(offsets_in((7, ()), -5, 5), [(-5, 5, 7)])

    def test_each_tick(self):
        rng = random.Random(35)
        for _ in range(60):
            begins = sorted(rng.sample(range(-40, 40), rng.randint(0, 12)))
            zone = (rng.randint(-90, 90), tuple((begin, rng.randint(-90, 90)) for begin in begins))
            start = rng.randint(-50, 40)
            parts = offsets_in(zone, start, start + rng.choice([0, 1, 30]))
            self.assertTrue(all(begin <= end for begin, end, _ in parts))
            ticks = [(t, offset) for begin, end, offset in parts for t in range(begin, end + 1)]
            told = [(t, plain_local(zone, t) - t) for t in range(start, parts[-1][1] + 1)]
            self.assertEqual(ticks, told)


if __name__ == "__main__":
    unittest.main()
