"""Points 50 and 51."""

import random
import unittest
from fractions import Fraction
from math import ceil

from truealmanac.clocks import KeptClock, agreement


def agreement_as_told(sources, f):
    """By counting each number from the least low to the greatest high."""
    numbers = range(min(low for low, _ in sources), max(high for _, high in sources) + 1)
    counts = {x: sum(1 for low, high in sources if low <= x <= high) for x in numbers}
    found = [x for x in numbers if counts[x] >= len(sources) - f and counts[x] >= 1]
    return (found[0], found[-1]) if found else None


class Agreements(unittest.TestCase):
    def test_one_source(self):
        for f in (0, 1, 5):
            self.assertEqual(agreement([(-3, 4)], f), (-3, 4))
            self.assertEqual(agreement([(7, 7)], f), (7, 7))

    def test_how_many_may_be_wrong(self):
        sources = [(0, 10), (5, 15), (8, 9), (20, 30)]
        told = [None, (8, 9), (5, 10), (0, 30), (0, 30), (0, 30)]
        self.assertEqual([agreement(sources, f) for f in range(6)], told)

    def test_sources_that_only_touch(self):
        self.assertEqual(agreement([(0, 5), (5, 9)], 0), (5, 5))
        self.assertEqual(agreement([(5, 9), (0, 5)], 0), (5, 5))
        self.assertIsNone(agreement([(0, 4), (5, 9)], 0))
        self.assertEqual(agreement([(0, 5), (5, 9), (5, 5), (5, 5)], 0), (5, 5))

    def test_a_gap(self):
        # No number from 3 to 6 is in two sources.
        self.assertEqual(agreement([(0, 2), (0, 2), (7, 9), (7, 9)], 2), (0, 9))
        self.assertIsNone(agreement([(0, 2), (0, 2), (7, 9), (7, 9)], 1))

    def test_against_counting(self):
        rng = random.Random(50)
        for _ in range(600):
            sources = []
            for _ in range(rng.randint(1, 7)):
                low = rng.randint(-12, 12)
                sources.append((low, low + rng.choice([0, 0, 1, 3, 8])))
            for f in range(len(sources) + 2):
                self.assertEqual(agreement(sources, f), agreement_as_told(sources, f), (sources, f))

    def test_large_numbers(self):
        self.assertEqual(agreement([(-10 ** 30, 10 ** 30), (10 ** 30, 10 ** 31)], 0), (10 ** 30, 10 ** 30))


class Clocks(unittest.TestCase):
    def test_counting(self):
        clock = KeptClock(0, 5, 9)
        self.assertEqual(clock.known(), (5, 9))
        self.assertIsNone(clock.count(7))
        self.assertEqual(clock.known(), (12, 16))

    def test_the_error_is_rounded_up(self):
        for rate, d, e in [(1, 0, 0), (1, 1, 1), (1, 1000000, 1), (1, 1000001, 2), (1000000, 7, 7), (999999, 7, 7),
                           (500000, 7, 4), (500000, 8, 4), (20, 50000, 1), (20, 50001, 2)]:
            self.assertEqual(e, ceil(Fraction(d * rate, 1000000)))
            clock = KeptClock(rate, -3, 4)
            clock.count(d)
            self.assertEqual(clock.known(), (-3 + d - e, 4 + d + e))

    def test_hearing(self):
        clock = KeptClock(0, 0, 100)
        self.assertIs(clock.hear([(20, 40), (30, 50), (200, 300)], 1), True)
        self.assertEqual(clock.known(), (30, 40))
        self.assertIs(clock.hear([(0, 90)], 0), True)
        self.assertEqual(clock.known(), (30, 40))
        # No agreement, then an agreement without a number in both.
        self.assertIs(clock.hear([(30, 31), (33, 34)], 0), False)
        self.assertIs(clock.hear([(41, 90)], 0), False)
        self.assertIs(clock.hear([(0, 29)], 5), False)
        self.assertEqual(clock.known(), (30, 40))
        self.assertIs(clock.hear([(40, 90)], 0), True)
        self.assertEqual(clock.known(), (40, 40))

    def test_wide_then_narrow(self):
        clock = KeptClock(1000, 0, 0)
        clock.count(100000)
        self.assertEqual(clock.known(), (99900, 100100))
        self.assertTrue(clock.hear([(100050, 100060)], 0))
        self.assertEqual(clock.known(), (100050, 100060))
        clock.count(1)
        self.assertEqual(clock.known(), (100050, 100062))

    def test_the_pair_stays_right(self):
        rng = random.Random(51)
        for _ in range(60):
            rate = rng.choice([0, 1, 500, 90000])
            clock = KeptClock(rate, -5, 5)
            time = 0
            for _ in range(30):
                d = rng.randint(0, 3000)
                e = ceil(Fraction(d * rate, 1000000))
                clock.count(d)
                time += rng.randint(d - e, d + e)
                sources = [(time - rng.randint(0, 50), time + rng.randint(0, 50)) for _ in range(4)]
                wrong = rng.randint(0, 2)
                for k in range(wrong):
                    sources[k] = (time + 1000 * k + 3, time + 1000 * k + 20)
                rng.shuffle(sources)
                before = clock.known()
                agreed = agreement(sources, wrong)
                self.assertIs(clock.hear(sources, wrong), True)
                low, high = clock.known()
                self.assertTrue(low <= time <= high)
                self.assertEqual((low, high), (max(before[0], agreed[0]), min(before[1], agreed[1])))


if __name__ == "__main__":
    unittest.main()
