"""Point 4."""

import random
import unittest

from truealmanac.waves import arch, wave
from plain import QUARTER, TURN, plain_arch, plain_wave


class Arches(unittest.TestCase):
    def test_told_values(self):
        self.assertEqual(arch(0), 0)
        self.assertEqual(arch(1), 4)
        self.assertEqual(arch(QUARTER), 1000000)
        self.assertEqual(arch(QUARTER - 1), 999999)
        self.assertEqual(arch(QUARTER // 2), 687500)

    def test_formula(self):
        self.assertTrue(all(arch(u) == plain_arch(u) for u in range(QUARTER + 1)))


class Waves(unittest.TestCase):
    def test_quarters(self):
        self.assertEqual([wave(k * QUARTER) for k in range(5)], [0, 1000000, 0, -1000000, 0])

    def test_beside_quarters(self):
        for k, (before, behind) in enumerate([(-4, 4), (999999, 999999), (4, -4), (-999999, -999999)]):
            for turns in (0, -1, 3, 10 ** 12):
                at = k * QUARTER + turns * TURN
                self.assertEqual((wave(at - 1), wave(at + 1)), (before, behind))

    def test_formula(self):
        rng = random.Random(41)
        for size in (TURN, 10 * TURN, 10 ** 15, 10 ** 40):
            for _ in range(1000):
                x = rng.randint(-size, size)
                self.assertEqual(wave(x), plain_wave(x))

    def test_symmetries(self):
        rng = random.Random(42)
        for _ in range(2000):
            x = rng.randint(-3 * TURN, 3 * TURN)
            self.assertEqual(wave(-x), -wave(x))
            self.assertEqual(wave(x + TURN), wave(x))
            self.assertEqual(wave(x + TURN // 2), -wave(x))
            self.assertLessEqual(abs(wave(x)), 1000000)

    def test_bound_of_differences(self):
        rng = random.Random(43)
        for _ in range(5000):
            x = rng.choice([0, QUARTER, 2 * QUARTER, 3 * QUARTER, rng.randint(0, TURN)]) + rng.randint(-50, 50)
            d = rng.choice([1, 2, 27, rng.randint(1, 400), rng.randint(1, QUARTER)])
            self.assertLessEqual(abs(wave(x + d) - wave(x)), 125 * d // 27 + 1)


if __name__ == "__main__":
    unittest.main()
