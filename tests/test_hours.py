"""Point 70."""

import random
import unittest

from truealmanac.hours import is_open, next_turn, open_minutes
from plain import plain_local

WEEK = 10080
DAY = 1440
# Day 1 is a Monday.
SHOP = ((540, 720), (780, 1080), (DAY + 540, DAY + 541), (4 * DAY + 1200, 5 * DAY + 120), (6 * DAY + 1439, WEEK))
ALWAYS = ((0, WEEK),)
PLAIN = (0, ())


def open_as_told(week, closed, time):
    if time // DAY in closed:
        return False
    return any(begin <= (time - DAY) % WEEK <= end - 1 for begin, end in week)


def turn_as_told(week, closed, zone, tick):
    before = open_as_told(week, closed, plain_local(zone, tick))
    for t in range(tick + 1, tick + 20001):
        now = open_as_told(week, closed, plain_local(zone, t))
        if now != before:
            return t
        before = now
    return None


def random_week(rng):
    many = rng.randint(0, 4)
    edges = sorted(rng.sample(range(0, WEEK + 1), 2 * many))
    return tuple((edges[2 * k], edges[2 * k + 1]) for k in range(many))


class Open(unittest.TestCase):
    def test_no_hours(self):
        for time in range(-200, WEEK, 77):
            self.assertIs(is_open((), [], time), False)
        self.assertEqual(open_minutes((), [], 5), 0)

    def test_the_whole_week(self):
        for time in range(-WEEK, WEEK, 77):
            self.assertIs(is_open(ALWAYS, [], time), True)
        for day in range(-9, 9):
            self.assertEqual(open_minutes(ALWAYS, [], day), 1440)

    def test_edges(self):
        for begin, end in SHOP:
            for week in (-3, 0, 1, 70000):
                first = DAY + WEEK * week
                self.assertIs(is_open(SHOP, [], first + begin), True)
                self.assertIs(is_open(SHOP, [], first + begin - 1), False)
                self.assertIs(is_open(SHOP, [], first + end), False)
                self.assertIs(is_open(SHOP, [], first + end - 1), True)

    def test_over_the_end_of_the_week(self):
        week = ((0, 30), (WEEK - 30, WEEK))
        for time in range(-60, 60):
            self.assertIs(is_open(week, [], DAY + WEEK + time), -30 <= time < 30)

    def test_over_midnight(self):
        # Friday from 20:00 to Saturday at 2:00.
        self.assertIs(is_open(SHOP, [], 5 * DAY + 1439), True)
        self.assertIs(is_open(SHOP, [], 6 * DAY), True)
        self.assertIs(is_open(SHOP, [5], 6 * DAY), True)
        self.assertIs(is_open(SHOP, [5], 6 * DAY - 1), False)
        self.assertIs(is_open(SHOP, [6], 6 * DAY), False)
        self.assertEqual((open_minutes(SHOP, [], 5), open_minutes(SHOP, [], 6)), (240, 120))

    def test_closed_days(self):
        closed = [-6, 1, 8, 9, 16]
        for day in range(-20, 30):
            for minute in (0, 539, 540, 719, 720, 1079, 1439):
                time = DAY * day + minute
                self.assertIs(is_open(SHOP, closed, time), open_as_told(SHOP, closed, time))
            self.assertIs(is_open(ALWAYS, closed, DAY * day), day not in closed)
            self.assertEqual(open_minutes(ALWAYS, closed, day), 0 if day in closed else 1440)

    def test_any(self):
        rng = random.Random(70)
        for _ in range(60):
            week = random_week(rng)
            closed = sorted(rng.sample(range(-20, 20), rng.randint(0, 6)))
            for _ in range(50):
                time = rng.randint(-20 * DAY, 20 * DAY)
                self.assertIs(is_open(week, closed, time), open_as_told(week, closed, time))
            for day in rng.sample(range(-20, 20), 4):
                minutes = [open_as_told(week, closed, DAY * day + minute) for minute in range(DAY)]
                self.assertEqual(open_minutes(week, closed, day), sum(minutes))

    def test_fifty_pairs(self):
        week = tuple((200 * k + 10, 200 * k + 100) for k in range(50))
        for time in range(-WEEK, WEEK, 5):
            self.assertIs(is_open(week, [], time), open_as_told(week, [], time))
        for day in range(1, 8):
            minutes = [open_as_told(week, [], DAY * day + minute) for minute in range(DAY)]
            self.assertEqual(open_minutes(week, [], day), sum(minutes))


class Turns(unittest.TestCase):
    def check(self, week, closed, zone, tick):
        found = next_turn(week, closed, zone, tick)
        self.assertEqual(found, turn_as_told(week, closed, zone, tick))
        return found

    def test_each_turn_of_a_week(self):
        turns = []
        tick = DAY
        while tick < DAY + WEEK:
            tick = self.check(SHOP, [], PLAIN, tick)
            turns.append(tick - DAY)
        # Sunday's last minute is open, Monday's first one is not.
        self.assertEqual(turns, [edge for pair in SHOP for edge in pair])

    def test_behind_the_tick(self):
        for tick, told in [(DAY + 539, DAY + 540), (DAY + 540, DAY + 720), (DAY + 541, DAY + 720), (0, 1439), (1439, DAY)]:
            self.assertEqual(self.check(SHOP, [], PLAIN, tick), told)

    def test_none(self):
        self.assertIsNone(self.check((), [], PLAIN, 5))
        self.assertIsNone(self.check(ALWAYS, [], PLAIN, 5))
        self.assertIsNone(self.check((), [3, 4], PLAIN, 5))
        # From Sunday to Monday the pairs go on.
        self.assertEqual(self.check(((0, 30), (WEEK - 30, WEEK)), [], PLAIN, DAY + WEEK - 10),
                         DAY + WEEK + 30)

    def test_closed_days(self):
        self.assertEqual(self.check(ALWAYS, [3, 4], PLAIN, 5), 3 * DAY)
        self.assertEqual(self.check(ALWAYS, [3, 4], PLAIN, 3 * DAY), 5 * DAY)
        self.assertEqual(self.check(ALWAYS, [3, 4], PLAIN, 3 * DAY - 1), 3 * DAY)
        self.assertEqual(self.check(ALWAYS, [3, 4], (-60, ()), 3 * DAY), 3 * DAY + 60)
        self.assertEqual(self.check(SHOP, [5], PLAIN, 5 * DAY + 5), 6 * DAY)

    def test_exactly_20000_behind(self):
        closed = [100]
        for tick, told in [(100 * DAY - 20000, 100 * DAY), (100 * DAY - 20001, None), (100 * DAY - 19999, 100 * DAY)]:
            self.assertEqual(self.check(ALWAYS, closed, PLAIN, tick), told)
        # Also if an offset begins there: the local day leaps past all of day 34.
        week = ((4 * DAY, 5 * DAY),)
        self.assertTrue(is_open(week, [], 33 * DAY))
        zone = (0, ((33 * DAY + 700, 1500),))
        for behind, found in [(20000, True), (20001, False), (19999, True)]:
            tick = 33 * DAY + 700 - behind
            closed = list(range(20, 33))
            self.assertEqual(self.check(ALWAYS, closed + [34, 35], zone, 33 * DAY), 33 * DAY + 700)
            self.assertIs(self.check(ALWAYS, [34, 35] + list(range(60, 70)), zone, tick) is not None, found)

    def test_the_greatest_offsets(self):
        for offset in (-1500, -1440, -1, 1, 1440, 1500):
            turn = 100 * DAY - offset
            for tick, told in [(turn - 20001, None), (turn - 20000, turn), (turn - 1, turn), (turn, turn + DAY)]:
                self.assertEqual(self.check(ALWAYS, [100], (offset, ()), tick), told)
            # The last minute of a day alone.
            turn = 100 * DAY + 1439 - offset
            week = (((99 * DAY + 1439) % WEEK, (99 * DAY + 1439) % WEEK + 1),)
            for tick, told in [(turn - 10080, turn - 10079), (turn - 10079, turn), (turn - 1, turn), (turn, turn + 1)]:
                self.assertEqual(self.check(week, [], (offset, ()), tick), told)

    def test_gaps_and_folds(self):
        # At the tick 2000 the local time leaps from 2000 to 2100: past a begin, past an end, past both.
        for zone in [(0, ((2000, 100),)), (100, ((2000, 0),)), (0, ((2000, 100), (2030, 0))), (0, ((2000, -1500),)),
                     (-1500, ((2000, 1500),)), (1500, ((1990, -1500), (2000, 1500)))]:
            for begin, end in [(600, 2000), (610, 700), (560, 660), (650, 660), (560, 561), (559, 560), (660, 700),
                               (661, 700), (0, 560), (0, 660), (0, 661)]:
                for closed in ([], [1], [2]):
                    for tick in (1900, 1999, 2000, 2001, 2040):
                        self.check(((begin, end),), closed, zone, tick)

    def test_a_gap_opens(self):
        # Open from 10:30 to 10:40 on Monday, at local times that are left out or come twice.
        week = ((630, 640),)
        self.assertEqual(self.check(week, [], (0, ((DAY + 600, 35),)), DAY), DAY + 600)
        self.assertEqual(self.check(week, [], (0, ((DAY + 600, 35),)), DAY + 600), DAY + 605)
        self.assertEqual(self.check(week, [], (0, ((DAY + 600, 60),)), DAY), DAY + WEEK + 570)
        fold = (0, ((DAY + 635, -60),))
        self.assertEqual(self.check(week, [], fold, DAY), DAY + 630)
        self.assertEqual(self.check(week, [], fold, DAY + 630), DAY + 635)
        self.assertEqual(self.check(week, [], fold, DAY + 635), DAY + 690)
        self.assertEqual(self.check(week, [], fold, DAY + 690), DAY + 700)

    def test_any(self):
        rng = random.Random(71)
        for _ in range(40):
            begins = sorted(rng.sample(range(0, 15000), rng.choice([0, 1, 3, 30])))
            zone = (rng.randint(-1500, 1500), tuple((begin, rng.randint(-1500, 1500)) for begin in begins))
            closed = sorted(rng.sample(range(0, 14), rng.choice([0, 2, 14])))
            self.check(random_week(rng), closed, zone, rng.randint(-3000, 15000))

    def test_many_offsets(self):
        zone = (0, tuple((50 * k, 30 * (k % 2)) for k in range(400)))
        for tick in (0, 49, 50, 560, 10079):
            self.check(SHOP, [3], zone, tick)


if __name__ == "__main__":
    unittest.main()
