"""Point 75, with point 12."""

import random
import unittest
from fractions import Fraction

from truealmanac.errors import FractionError
from truealmanac.finder import changes, moment
from truealmanac.ratios import clock_text, fraction, is_less, minus, moment_fraction, over, plus, times
from plain import error_of

BIG = 10 ** 20 - 1


def pair_of(told):
    return (told.numerator, told.denominator)


def some_numbers(rng):
    return rng.choice([0, 1, -1, rng.randint(-12, 12), rng.randint(-10 ** 6, 10 ** 6), rng.randint(-BIG, BIG)])


def some_fraction(rng):
    return Fraction(some_numbers(rng), some_numbers(rng) or 1)


class Fractions(unittest.TestCase):
    def test_lowest_terms(self):
        for n, d, told in [
            (0, 1, (0, 1)), (0, 5, (0, 1)), (0, -5, (0, 1)), (1, 1, (1, 1)), (6, 4, (3, 2)), (-6, 4, (-3, 2)),
            (6, -4, (-3, 2)), (-6, -4, (3, 2)), (5, 1, (5, 1)), (5, -1, (-5, 1)), (12, 12, (1, 1)), (-12, 12, (-1, 1)),
            (7, 3, (7, 3)), (BIG, BIG, (1, 1)), (BIG, 3, (BIG // 3, 1)), (10 ** 20, -BIG, (-10 ** 20, BIG)),
            (2 ** 70, 2 ** 69, (2, 1)),
        ]:
            self.assertEqual(fraction(n, d), told)

    def test_zero(self):
        for n in (0, 1, -1, BIG):
            self.assertEqual(error_of(FractionError, fraction, n, 0), {"code": "zero"})

    def test_any(self):
        rng = random.Random(75)
        for _ in range(500):
            n, d = some_numbers(rng), some_numbers(rng) or 7
            self.assertEqual(fraction(n, d), pair_of(Fraction(n, d)))


class Sums(unittest.TestCase):
    def test_small_ones(self):
        half, third = (1, 2), (1, 3)
        self.assertEqual(plus(half, third), (5, 6))
        self.assertEqual(plus(half, half), (1, 1))
        self.assertEqual(minus(half, third), (1, 6))
        self.assertEqual(minus(third, half), (-1, 6))
        self.assertEqual(minus(half, half), (0, 1))
        self.assertEqual(times(half, third), (1, 6))
        self.assertEqual(times(half, (2, 1)), (1, 1))
        self.assertEqual(times((-1, 2), (0, 1)), (0, 1))
        self.assertEqual(over(half, third), (3, 2))
        self.assertEqual(over(half, (-1, 3)), (-3, 2))
        self.assertEqual(over((0, 1), (-1, 3)), (0, 1))

    def test_dividing_by_zero(self):
        for a in [(1, 2), (0, 1), (-BIG, 7)]:
            self.assertEqual(error_of(FractionError, over, a, (0, 1)), {"code": "zero"})

    def test_any(self):
        rng = random.Random(76)
        for _ in range(600):
            a, b = some_fraction(rng), some_fraction(rng)
            p, q = pair_of(a), pair_of(b)
            self.assertEqual(plus(p, q), pair_of(a + b))
            self.assertEqual(minus(p, q), pair_of(a - b))
            self.assertEqual(times(p, q), pair_of(a * b))
            self.assertEqual(minus(plus(p, q), q), p)
            self.assertIs(is_less(p, q), a < b)
            if b != 0:
                self.assertEqual(over(p, q), pair_of(a / b))
                self.assertEqual(over(times(p, q), q), p)

    def test_comparing(self):
        self.assertIs(is_less((1, 3), (1, 2)), True)
        self.assertIs(is_less((1, 2), (1, 3)), False)
        self.assertIs(is_less((-1, 2), (-1, 3)), True)
        self.assertIs(is_less((-1, 2), (0, 1)), True)
        for told in [(0, 1), (1, 2), (-7, 3), (BIG, 2)]:
            self.assertIs(is_less(told, told), False)
        self.assertIs(is_less((BIG - 1, BIG), (1, 1)), True)
        self.assertIs(is_less((BIG - 2, BIG - 1), (BIG - 1, BIG)), True)


class Moments(unittest.TestCase):
    def test_moments(self):
        self.assertEqual(moment_fraction((5, 1, 2)), (11, 2))
        self.assertEqual(moment_fraction((5, 0, 7)), (5, 1))
        self.assertEqual(moment_fraction((5, 4, 6)), (17, 3))
        self.assertEqual(moment_fraction((-5, 1, 3)), (-14, 3))
        self.assertEqual(moment_fraction((0, 2, 2)), (1, 1))

    def test_moments_of_changes(self):
        q = ("wave", ("turning", 3, 1296000, 97))
        for t, _ in changes(q, -500, 500):
            told = moment(q, t)
            self.assertEqual(moment_fraction(told), pair_of(told[0] + Fraction(told[1], told[2])))
            self.assertTrue(t - 1 <= Fraction(*moment_fraction(told)) <= t)


class ClockTexts(unittest.TestCase):
    def test_texts(self):
        for f, told in [
            (Fraction(0), "00:00:00"), (Fraction(425), "07:05:00"), (Fraction(1439), "23:59:00"),
            (Fraction(1440), "00:00:00"), (Fraction(1441), "00:01:00"), (Fraction(60), "01:00:00"),
            (Fraction(1, 2), "00:00:30"), (Fraction(1, 60), "00:00:01"), (Fraction(59, 60), "00:00:59"),
            (Fraction(1, 61), "00:00:00"), (Fraction(2, 61), "00:00:01"), (Fraction(59, 61), "00:00:58"),
            # The last second of a day.
            (Fraction(86399, 60), "23:59:59"), (1440 - Fraction(1, 10 ** 20), "23:59:59"),
            (1440 - Fraction(1, 59), "23:59:58"), (1440 - Fraction(1, 60), "23:59:59"),
            # Below 0, a part of a second ahead of a day is in its last one.
            (Fraction(-1), "23:59:00"), (Fraction(-1, 60), "23:59:59"), (Fraction(-1, 10 ** 20), "23:59:59"),
            (Fraction(-1440), "00:00:00"), (Fraction(-2881, 2), "23:59:30"), (Fraction(-61, 60), "23:58:59"),
        ]:
            self.assertEqual(clock_text(pair_of(f)), told, f)

    def test_any(self):
        rng = random.Random(77)
        for _ in range(400):
            f = some_fraction(rng)
            seconds = (f * 60) // 1 % 86400
            told = "%02d:%02d:%02d" % (seconds // 3600, seconds // 60 % 60, seconds % 60)
            self.assertEqual(clock_text(pair_of(f)), told)


if __name__ == "__main__":
    unittest.main()
