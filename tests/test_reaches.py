"""Points 7 and 8."""

import random
import unittest

from truealmanac.ladders import Ladder
from truealmanac.reaches import angle_reach, most, reach
from truealmanac.values import angle_value, value
from plain import plain_most, plain_reach, random_angle, random_quantity

SLOW = ("turning", 0, -1, 7)
WAVE = ("wave", ("turning", 0, 60, 1))


class Mosts(unittest.TestCase):
    def test_each_kind(self):
        self.assertEqual(most(("number", -12)), 12)
        self.assertEqual(most(("number", 12)), 12)
        self.assertEqual(most(WAVE), 1000000)
        self.assertEqual(most(("sum", WAVE, ("number", -3), ("number", 4))), 1000007)
        self.assertEqual(most(("share", ("number", 7), -3, 2)), 11)
        self.assertEqual(most(("share", ("number", -7), 0, 2)), 0)
        self.assertEqual(most(("product", ("number", -7), ("number", 5), 3)), 12)
        self.assertEqual(most(("product", ("number", 6), ("number", 5), 3)), 10)
        self.assertEqual(most(("later", ("number", -3), 500)), 3)


class Reaches(unittest.TestCase):
    def test_the_example(self):
        self.assertEqual(reach(WAVE, 9), 2501)

    def test_each_kind_of_angle(self):
        self.assertEqual([angle_reach(SLOW, k) for k in (0, 1, 7, 8)], [0, 1, 1, 2])
        self.assertEqual(angle_reach(("moved", SLOW, WAVE), 9), 2503)
        self.assertEqual(angle_reach(("minus", SLOW, ("turning", 5, 100, 3)), 9), 302)

    def test_each_kind_of_quantity(self):
        self.assertEqual(reach(("number", 5), 1000), 0)
        self.assertEqual(reach(("wave", ("turning", 9, 0, 1)), 1000), 0)
        self.assertEqual(reach(("wave", SLOW), 1), 5)
        self.assertEqual(reach(("sum", WAVE, WAVE, ("number", 7)), 9), 5002)
        self.assertEqual(reach(("later", WAVE, 77), 9), 2501)
        self.assertEqual(reach(("share", WAVE, -2, 3), 9), 1668)
        self.assertEqual(reach(("product", WAVE, ("number", -10), 3), 9), 8337)
        self.assertEqual(reach(("product", WAVE, WAVE, 1000000), 9), 5002)

    def test_no_ticks(self):
        rng = random.Random(80)
        for _ in range(100):
            self.assertEqual(reach(random_quantity(rng, 5), 0), 0)
            self.assertEqual(angle_reach(random_angle(rng, 5), 0), 0)

    def test_cap_of_twice_the_most(self):
        far = ("wave", ("turning", 0, 10 ** 6, 1))
        self.assertEqual(reach(far, 1), 2000000)
        self.assertEqual(reach(("wave", ("turning", 0, 431999, 1)), 1), 1999996)
        self.assertEqual(reach(("wave", ("turning", 0, 432000, 1)), 1), 2000000)
        self.assertEqual(reach(("product", far, ("number", 3), 1), 1), 6000000)
        self.assertEqual(reach(("product", far, far, 1000000), 1), 2000000)
        # Twice the most of this share is 2, but its reach by itself is less.
        self.assertEqual(reach(("share", far, 1, 10 ** 12), 1), 1)
        self.assertEqual(reach(("share", ("wave", ("turning", 0, 431999, 1)), 1, 10 ** 12), 1), 1)
        # Within an angle expression the wave is capped, the turning is not.
        self.assertEqual(angle_reach(("moved", ("turning", 0, 10 ** 7, 1), far), 1), 12000000)

    def test_random_expressions(self):
        rng = random.Random(8)
        for _ in range(400):
            q = random_quantity(rng, 6)
            a = random_angle(rng, 5)
            self.assertEqual(most(q), plain_most(q))
            for k in (0, 1, rng.randint(2, 300), 600000):
                self.assertEqual(reach(q, k), plain_reach(q, k))
                self.assertEqual(angle_reach(a, k), plain_reach(a, k))

    def test_values_stay_within(self):
        rng = random.Random(81)
        for _ in range(300):
            q = random_quantity(rng, 5)
            a = random_angle(rng, 4)
            t = rng.randint(-10 ** 6, 10 ** 6)
            for k in (1, 2, rng.randint(3, 50)):
                beside = t + rng.randint(-k, k)
                self.assertLessEqual(abs(value(q, t) - value(q, beside)), reach(q, k))
                self.assertLessEqual(abs(angle_value(a, t) - angle_value(a, beside)), angle_reach(a, k))
            self.assertLessEqual(abs(value(q, t)), most(q))


class Ladders(unittest.TestCase):
    def test_against_each_length(self):
        rng = random.Random(82)
        for _ in range(60):
            q = random_quantity(rng, 4)
            ladder = Ladder(q)
            for _ in range(12):
                limit = rng.choice([0, rng.randint(0, 3000), rng.randint(0, 2000000)])
                room = rng.randint(0, 60)
                longest = max(k for k in range(room + 1) if plain_reach(q, k) <= limit)
                self.assertEqual(ladder.longest(limit, room), longest)


if __name__ == "__main__":
    unittest.main()
