"""Point 58."""

import random
import unittest

from truealmanac.calendars import weekday
from truealmanac.workdays import count_working, go_on, is_working


def go_on_as_told(rest, holidays, day, n):
    step = 1 if n > 0 else -1
    for _ in range(abs(n)):
        day += step
        while weekday(day) in rest or day in holidays:
            day += step
    return day


class WorkingDays(unittest.TestCase):
    def random_case(self, rng):
        rest = tuple(sorted(rng.sample(range(7), rng.randint(0, 6))))
        holidays = sorted(rng.sample(range(-60, 60), rng.randint(0, 40)))
        return rest, holidays

    def test_known_week(self):
        # Day 1 is a Monday.
        rest, holidays = (5, 6), [3, 6]
        self.assertEqual([is_working(rest, holidays, day) for day in range(1, 9)],
                         [True, True, False, True, True, False, False, True])
        self.assertEqual(count_working(rest, holidays, 1, 8), 5)
        self.assertEqual([go_on(rest, holidays, 1, n) for n in range(-2, 7)], [-3, -2, 1, 2, 4, 5, 8, 9, 10])

    def test_no_rest(self):
        self.assertTrue(all(is_working((), [], day) for day in range(-9, 9)))
        self.assertEqual(count_working((), [], -9, 9), 19)
        self.assertEqual(go_on((), [], 5, 100000), 100005)
        self.assertEqual(go_on((), [], 5, -100000), -99995)

    def test_six_days_of_rest(self):
        rest = (0, 1, 2, 3, 4, 6)
        self.assertEqual([day for day in range(1, 30) if is_working(rest, [], day)], [6, 13, 20, 27])
        self.assertEqual(go_on(rest, [13], 6, 1), 20)
        self.assertEqual(go_on(rest, [], 6, 100000), 700006)
        self.assertEqual(go_on(rest, [], 6, -100000), -699994)

    def test_no_day_and_days_without_work(self):
        # The day itself, also if it is none of work.
        for day in range(1, 9):
            self.assertEqual(go_on((5, 6), [3], day, 0), day)
        self.assertEqual(go_on((5, 6), [3], 3, 1), 4)
        self.assertEqual(go_on((5, 6), [3], 3, -1), 2)
        self.assertEqual(go_on((5, 6), [3], 7, -1), 5)

    def test_empty_spaces(self):
        for first, last in [(5, 4), (5, 3), (5, -100), (9, 1)]:
            self.assertEqual(count_working((0,), [4], first, last), 0)

    def test_against_each_day(self):
        rng = random.Random(58)
        for _ in range(150):
            rest, holidays = self.random_case(rng)
            for day in range(-70, 70):
                self.assertIs(is_working(rest, holidays, day), weekday(day) not in rest and day not in holidays)
            for _ in range(10):
                first = rng.randint(-80, 80)
                last = first + rng.randint(-3, 60)
                told = sum(1 for day in range(first, last + 1) if is_working(rest, holidays, day))
                self.assertEqual(count_working(rest, holidays, first, last), told)
                n = rng.choice([-40, -7, -3, -2, -1, 0, 1, 2, 3, 7, 40])
                self.assertEqual(go_on(rest, holidays, first, n), go_on_as_told(rest, holidays, first, n))

    def test_holidays_on_days_of_rest_and_holidays_told_twice(self):
        self.assertEqual(count_working((5, 6), [2, 2, 6, 7], 1, 7), 4)
        self.assertEqual(go_on((5, 6), [2, 2, 6, 7], 1, 1), 3)
        self.assertEqual(go_on((5, 6), [6, 7], 5, 1), 8)

    def test_large_numbers(self):
        holidays = list(range(-4000000, 4000000, 11))
        told = sum(1 for day in range(-4000000, 4000001) if (day - 1) % 7 < 5 and (day + 4000000) % 11 > 0)
        self.assertEqual(count_working((5, 6), [*holidays, 3999997], -4000000, 4000000), told - 1)
        for n in (100000, -100000):
            day = go_on((5, 6), holidays, 0, n)
            self.assertTrue(is_working((5, 6), holidays, day))
            between = (1, day) if n > 0 else (day, -1)
            self.assertEqual(count_working((5, 6), holidays, *between), 100000)


if __name__ == "__main__":
    unittest.main()
