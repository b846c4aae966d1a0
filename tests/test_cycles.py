"""Point 69."""

import random
import unittest
from math import lcm

from truealmanac.cycles import next_of_all


def next_as_told(pairs, day):
    for tried in range(day, day + lcm(*[length for length, _ in pairs])):
        if all(tried % length == place for length, place in pairs):
            return tried
    return None


class Cycles(unittest.TestCase):
    def test_no_pairs(self):
        for day in (-4000000, -1, 0, 7, 4000000):
            self.assertEqual(next_of_all([], day), day)

    def test_one_pair(self):
        for day, told in [(0, 3), (3, 3), (4, 13), (-7, -7), (-6, 3), (-17, -17), (-8, -7), (12, 13)]:
            self.assertEqual(next_of_all([(10, 3)], day), told)

    def test_lengths_of_1(self):
        self.assertEqual(next_of_all([(1, 0)], -5), -5)
        self.assertEqual(next_of_all([(1, 0), (7, 2), (1, 0)], 3), 9)

    def test_the_given_day(self):
        self.assertEqual(next_of_all([(4, 1), (6, 3)], 9), 9)
        self.assertEqual(next_of_all([(4, 1), (6, 3)], 10), 21)
        self.assertEqual(next_of_all([(4, 1), (6, 3)], -3), -3)
        self.assertEqual(next_of_all([(4, 1), (6, 3)], -2), 9)

    def test_common_divisors(self):
        self.assertEqual(next_of_all([(12, 5), (18, 11)], 0), 29)
        self.assertIsNone(next_of_all([(12, 5), (18, 12)], 0))
        self.assertIsNone(next_of_all([(4, 1), (6, 2)], 0))
        self.assertIsNone(next_of_all([(7, 1), (7, 2)], 0))
        self.assertEqual(next_of_all([(7, 1), (7, 1)], 0), 1)
        self.assertIsNone(next_of_all([(1000, 1), (999, 5), (2, 0)], 0))

    def test_six_pairs(self):
        pairs = [(1000, 999), (999, 998), (997, 996), (991, 990), (983, 982), (977, 976)]
        self.assertEqual(next_of_all(pairs, -1), -1)
        self.assertEqual(next_of_all(pairs, 0), lcm(*[length for length, _ in pairs]) - 1)
        self.assertEqual(next_of_all([(n, 0) for n in (2, 3, 4, 5, 6, 7)], 1), 420)
        self.assertEqual(next_of_all([(n, 0) for n in (2, 3, 4, 5, 6, 7)], -419), 0)

    def test_against_each_day(self):
        rng = random.Random(69)
        found = []
        for _ in range(500):
            pairs = []
            for _ in range(rng.randint(1, 4)):
                length = rng.randint(1, 12)
                pairs.append((length, rng.randrange(length)))
            day = rng.choice([rng.randint(-300, 300), -4000000, 0])
            found.append(next_of_all(pairs, day))
            self.assertEqual(found[-1], next_as_told(pairs, day))
        self.assertTrue(50 < found.count(None) < 450)

    def test_the_order_of_pairs(self):
        rng = random.Random(70)
        for _ in range(50):
            day = rng.randint(-10 ** 6, 10 ** 6)
            pairs = [(n, day % n) for n in (28, 19, 15, 1000, 729)]
            for _ in range(3):
                rng.shuffle(pairs)
                self.assertEqual(next_of_all(pairs, day), day)
                self.assertEqual(next_of_all(pairs, day + 1), day + lcm(28, 19, 15, 1000, 729))


if __name__ == "__main__":
    unittest.main()
