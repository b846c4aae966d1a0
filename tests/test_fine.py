"""Point 61."""

import random
import unittest

from truealmanac.finder import changes
from truealmanac.fine import fine_moments, finer
from plain import plain_changes, plain_value, random_quantity

TURN = ("turning", 5, 7, 11)


def finer_as_told(e, m):
    """An expression as a list is changed word by word: d of each turning, n of each later."""
    if not isinstance(e, tuple):
        return e
    if e[0] == "turning":
        return e[:3] + (e[3] * m,)
    if e[0] == "later":
        return ("later", finer_as_told(e[1], m), e[2] * m)
    return tuple(finer_as_told(part, m) for part in e)


class Finer(unittest.TestCase):
    def test_each_word(self):
        wave = ("wave", TURN)
        fine = ("wave", ("turning", 5, 7, 11000))
        for q, told in [
            (("number", 9), ("number", 9)),
            (wave, fine),
            (("sum", wave), ("sum", fine)),
            (("sum", wave, ("number", 3), wave), ("sum", fine, ("number", 3), fine)),
            (("share", wave, 13, 17), ("share", fine, 13, 17)),
            (("product", wave, ("number", 2), 19), ("product", fine, ("number", 2), 19)),
            (("product", ("number", 2), wave, 19), ("product", ("number", 2), fine, 19)),
            (("later", wave, 23), ("later", fine, 23000)),
            (("later", wave, 0), ("later", fine, 0)),
            (("later", wave, -23), ("later", fine, -23000)),
            (("wave", ("moved", TURN, wave)), ("wave", ("moved", fine[1], fine))),
            (("wave", ("moved", TURN, ("later", wave, -2))), ("wave", ("moved", fine[1], ("later", fine, -2000)))),
            (("wave", ("minus", TURN, ("moved", TURN, ("later", ("number", 4), 2)))),
             ("wave", ("minus", fine[1], ("moved", fine[1], ("later", ("number", 4), 2000))))),
            (("later", ("later", wave, 1), -1), ("later", ("later", fine, 1000), -1000)),
        ]:
            self.assertEqual(finer(q, 1000), told)
            self.assertEqual(finer(q, 1), q)

    def test_any(self):
        rng = random.Random(61)
        for _ in range(150):
            q = random_quantity(rng, rng.randint(1, 5))
            for m in (1, 2, rng.randint(2, 999), 1000):
                fine = finer(q, m)
                self.assertEqual(fine, finer_as_told(q, m))
                for t in (0, -1, 1, rng.randint(-10 ** 6, 10 ** 6)):
                    self.assertEqual(plain_value(fine, m * t), plain_value(q, t))

    def test_beyond_the_bounds(self):
        q = ("later", ("wave", ("turning", 1, 10 ** 12, 10 ** 12)), 10 ** 12)
        self.assertEqual(finer(q, 1000), ("later", ("wave", ("turning", 1, 10 ** 12, 10 ** 15)), 10 ** 15))


class FineMoments(unittest.TestCase):
    def check(self, q, start, end, m):
        for t, side in changes(q, start, end):
            found = fine_moments(q, t, m)
            told = plain_changes(finer_as_told(q, m), m * (t - 1), m * t)
            self.assertEqual(found, [u for u, _ in told])
            self.assertEqual(len(found) % 2, 1)
            self.assertEqual((told[0][1], told[-1][1]), (side, side))
            self.assertTrue(all(m * (t - 1) < u <= m * t for u in found))

    def test_waves(self):
        for q in [("wave", ("turning", 3, 1296000, 97)), ("wave", ("turning", 1, -1296000, 50)),
                  ("sum", ("wave", ("turning", 0, 12960, 1)), ("number", -500000))]:
            self.assertTrue(changes(q, 0, 300))
            for m in (1, 2, 7, 1000):
                self.check(q, 0, 300, m)

    def test_several_in_one_tick(self):
        # At whole ticks this wave seems to be slow, but it turns round once more in each of them.
        q = ("wave", ("turning", 600000, 1296000 + 13000, 1))
        found = [len(fine_moments(q, t, 1000)) for t, _ in changes(q, 0, 200)]
        self.assertIn(3, found)
        self.check(q, 0, 200, 1000)

    def test_at_the_last_fine_tick(self):
        # It is 0 at 200 exactly, and below 0 before.
        q = ("wave", ("turning", 1296000 * 7 - 200, 1, 1))
        self.assertEqual(changes(q, 100, 300), [(200, "up")])
        self.assertEqual(fine_moments(q, 200, 1), [200])
        self.assertEqual(fine_moments(q, 200, 10), [2000])

    def test_m_of_1(self):
        rng = random.Random(62)
        for _ in range(20):
            q = random_quantity(rng, 3)
            for t, _ in changes(q, -100, 100):
                self.assertEqual(fine_moments(q, t, 1), [t])

    def test_any(self):
        rng = random.Random(63)
        for _ in range(30):
            self.check(random_quantity(rng, rng.randint(2, 4)), -40, 40, rng.choice([2, 3, 10, 31]))


if __name__ == "__main__":
    unittest.main()
