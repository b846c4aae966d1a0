"""Point 66."""

import random
import unittest

from truealmanac.offsets import meet, offset


def numbers_between(exchange, m):
    """All offsets with which the two ways of an exchange took at least m each."""
    a, b, c, d = exchange
    return [o for o in range(-200, 201) if b - (a + o) >= m and (d + o) - c >= m]


def pair_of(numbers):
    return (min(numbers), max(numbers)) if numbers else None


def random_exchange(rng, true, m):
    """An exchange of a clock that is ahead by the true offset; nothing is faster than m."""
    a = rng.randint(-50, 50)
    b = a + true + m + rng.randint(0, 6)
    c = b + rng.randint(0, 6)
    return (a, b, c, c - true + m + rng.randint(0, 6))


class Offsets(unittest.TestCase):
    def test_one(self):
        # Sent at 10, it came at 110; the answer, sent at 111, came at 17: 6 in all, at least 2 each way.
        self.assertEqual(offset((10, 110, 111, 17), 2), (96, 98))
        self.assertEqual(offset((10, 110, 111, 17), 0), (94, 100))
        self.assertEqual(offset((10, 110, 111, 17), 3), (97, 97))
        self.assertIsNone(offset((10, 110, 111, 17), 4))
        self.assertEqual(offset((0, -5, -5, 0), 0), (-5, -5))

    def test_no_pair(self):
        self.assertIsNone(offset((0, 5, 6, 0), 0))
        self.assertEqual(offset((0, 5, 6, 1), 0), (5, 5))
        self.assertIsNone(offset((0, 5, 6, 1), 1))

    def test_any(self):
        rng = random.Random(66)
        for _ in range(300):
            exchange = tuple(rng.randint(-20, 20) for _ in range(4))
            m = rng.randint(0, 5)
            self.assertEqual(offset(exchange, m), pair_of(numbers_between(exchange, m)))

    def test_true_offsets(self):
        rng = random.Random(67)
        for _ in range(300):
            true, m = rng.randint(-90, 90), rng.choice([0, 1, 5])
            exchanges = [random_exchange(rng, true, m) for _ in range(rng.randint(1, 6))]
            for exchange in exchanges:
                low, high = offset(exchange, m)
                self.assertTrue(low <= true <= high)
            low, high = meet(exchanges, m)
            self.assertTrue(low <= true <= high)


class Meets(unittest.TestCase):
    def test_one(self):
        self.assertEqual(meet([(10, 110, 111, 17)], 2), (96, 98))
        self.assertEqual(meet([(10, 110, 111, 17)], 3), (97, 97))
        self.assertIsNone(meet([(10, 110, 111, 17)], 4))

    def test_several(self):
        # Their pairs are from 0 to 10, from 4 to 14 and from 10 to 11.
        first, second, third = (0, 10, 10, 10), (0, 14, 14, 10), (0, 11, 11, 1)
        self.assertEqual([offset(e, 0) for e in (first, second, third)], [(0, 10), (4, 14), (10, 11)])
        self.assertEqual(meet([first, second], 0), (4, 10))
        self.assertEqual(meet([second, first], 0), (4, 10))
        self.assertEqual(meet([first, second, third], 0), (10, 10))
        self.assertEqual(meet([first, first], 0), (0, 10))

    def test_empty(self):
        # From 0 to 10 and from 11 to 12.
        self.assertIsNone(meet([(0, 10, 10, 10), (0, 12, 12, 1)], 0))
        # One of them is empty by itself.
        self.assertIsNone(meet([(0, 10, 10, 10), (0, 5, 6, 0), (0, 10, 10, 10)], 0))

    def test_any(self):
        rng = random.Random(68)
        found = []
        for _ in range(400):
            m = rng.randint(0, 2)
            exchanges = [tuple(rng.randint(-15, 15) for _ in range(4)) for _ in range(rng.randint(1, 3))]
            numbers = set(numbers_between(exchanges[0], m))
            for exchange in exchanges:
                numbers &= set(numbers_between(exchange, m))
            found.append(meet(exchanges, m))
            self.assertEqual(found[-1], pair_of(numbers))
        self.assertTrue(20 < found.count(None) < 380)


if __name__ == "__main__":
    unittest.main()
