"""Points 27 (up) and 72."""

import random
import unittest

from truealmanac.places import altitude
from truealmanac.spells import both, either, length, rest, spells_of
from plain import plain_value, random_quantity
import samples

HILL = ("wave", ("turning", 0, 1296000, 97))


def spells_as_told(ticks):
    """The list of spells that has exactly these ticks."""
    found = []
    for t in sorted(ticks):
        if found and found[-1][1] == t - 1:
            found[-1] = (found[-1][0], t)
        else:
            found.append((t, t))
    return found


def ticks_in(spells):
    return {t for start, end in spells for t in range(start, end + 1)}


def random_spells(rng):
    return spells_as_told([t for t in range(-20, 20) if rng.random() < 0.5 and rng.random() < 0.9])


def step(*edges):
    """A quantity that is up from each of the edges on to the next one, and so on: a product of slopes."""
    q = ("number", 1)
    for edge in edges:
        slope = ("sum", ("wave", ("turning", -edge, 1, 1)), ("number", 0))
        q = ("product", q, slope, 1)
    return q


class SpellsOfQuantities(unittest.TestCase):
    def check(self, q, start, end):
        told = spells_as_told([t for t in range(start, end + 1) if plain_value(q, t) >= 0])
        self.assertEqual(spells_of(q, start, end), told)
        return told

    def test_the_whole_span_and_none(self):
        self.assertEqual(spells_of(("number", 0), -5, 500000), [(-5, 500000)])
        self.assertEqual(spells_of(("number", 7), 3, 3), [(3, 3)])
        self.assertEqual(spells_of(("number", -1), -5, 500000), [])
        self.assertEqual(spells_of(("number", -1), 3, 3), [])
        self.assertEqual(self.check(HILL, 3, 40), [(3, 40)])
        self.assertEqual(self.check(HILL, 50, 90), [])

    def test_waves(self):
        told = self.check(HILL, 0, 300)
        self.assertEqual(told[0], (0, 48))
        self.assertGreater(len(told), 3)
        for start in range(40, 60):
            for end in (start, start + 1, start + 40, start + 60):
                self.check(HILL, start, end)

    def test_the_first_and_last_tick_alone(self):
        # Up until 48 and from 97 on.
        self.assertEqual(self.check(HILL, 48, 97), [(48, 48), (97, 97)])
        self.assertEqual(self.check(HILL, 48, 96), [(48, 48)])
        self.assertEqual(self.check(HILL, 49, 97), [(97, 97)])
        self.assertEqual(self.check(HILL, 49, 96), [])

    def test_single_ticks(self):
        # Up at the ticks 10 and 20 alone: 0 there, and below 0 elsewhere.
        q = ("share", ("product", step(10, 20), step(10, 20), 1), -1, 1)
        self.assertEqual(self.check(q, 0, 30), [(10, 10), (20, 20)])
        self.assertEqual(self.check(q, 10, 20), [(10, 10), (20, 20)])

    def test_any(self):
        rng = random.Random(72)
        for _ in range(100):
            q = random_quantity(rng, rng.randint(1, 4))
            start = rng.randint(-3000, 3000)
            self.check(q, start, start + rng.choice([0, 1, 2, 50, 250]))

    def test_a_long_span(self):
        sky = samples.sky()
        sky["turning"] = (77, 1296000, 1436)
        q = altitude(sky, (180000, 40000), "still")
        spells = spells_of(q, -300000, 300000)
        self.assertGreater(len(spells), 400)
        for start, end in spells[1:-1:50]:
            values = [plain_value(q, t) >= 0 for t in (start - 1, start, end, end + 1)]
            self.assertEqual(values, [False, True, True, False])


class Lists(unittest.TestCase):
    def test_empty(self):
        self.assertEqual(both([], []), [])
        self.assertEqual(either([], []), [])
        self.assertEqual(both([(1, 5)], []), [])
        self.assertEqual(both([], [(1, 5)]), [])
        self.assertEqual(either([(1, 5)], []), [(1, 5)])
        self.assertEqual(either([], [(1, 5)]), [(1, 5)])
        self.assertEqual(rest([], 3, 8), [(3, 8)])
        self.assertEqual(length([]), 0)

    def test_touching(self):
        # 5 is in both; from 5 to 6 there is no gap; from 5 to 7 there is one.
        for second, shared, joined in [((5, 9), [(5, 5)], [(1, 9)]), ((6, 9), [], [(1, 9)]),
                                       ((7, 9), [], [(1, 5), (7, 9)])]:
            for pair in ([(1, 5)], [second]), ([second], [(1, 5)]):
                self.assertEqual((both(*pair), either(*pair)), (shared, joined))

    def test_overlapping_and_nested(self):
        self.assertEqual(both([(1, 9)], [(4, 12)]), [(4, 9)])
        self.assertEqual(either([(1, 9)], [(4, 12)]), [(1, 12)])
        self.assertEqual(both([(1, 90)], [(4, 12), (14, 14), (80, 99)]), [(4, 12), (14, 14), (80, 90)])
        self.assertEqual(either([(1, 90)], [(4, 12), (14, 14), (80, 99)]), [(1, 99)])
        self.assertEqual(either([(1, 2), (10, 11)], [(4, 8)]), [(1, 2), (4, 8), (10, 11)])
        self.assertEqual(either([(1, 2), (10, 11)], [(3, 9)]), [(1, 11)])
        self.assertEqual(both([(1, 2), (4, 5)], [(1, 2), (4, 5)]), [(1, 2), (4, 5)])
        self.assertEqual(either([(1, 2), (4, 5)], [(1, 2), (4, 5)]), [(1, 2), (4, 5)])

    def test_rest(self):
        spells = [(1, 5), (7, 7), (10, 20)]
        for start, end, told in [
            (-5, 30, [(-5, 0), (6, 6), (8, 9), (21, 30)]), (3, 15, [(6, 6), (8, 9)]), (5, 10, [(6, 6), (8, 9)]),
            (6, 9, [(6, 6), (8, 9)]), (2, 4, []), (1, 5, []), (0, 6, [(0, 0), (6, 6)]), (7, 7, []), (6, 6, [(6, 6)]),
            (30, 40, [(30, 40)]), (-9, -3, [(-9, -3)]), (20, 21, [(21, 21)]), (8, 8, [(8, 8)]), (-9, 1, [(-9, 0)]),
        ]:
            self.assertEqual(rest(spells, start, end), told, (start, end))

    def test_length(self):
        self.assertEqual(length([(5, 5)]), 1)
        self.assertEqual(length([(-3, 3), (5, 5), (10, 19)]), 18)

    def test_against_each_tick(self):
        rng = random.Random(73)
        for _ in range(600):
            first, second = random_spells(rng), random_spells(rng)
            self.assertEqual(both(first, second), spells_as_told(ticks_in(first) & ticks_in(second)))
            self.assertEqual(either(first, second), spells_as_told(ticks_in(first) | ticks_in(second)))
            self.assertEqual(length(first), len(ticks_in(first)))
            start = rng.randint(-30, 25)
            end = start + rng.choice([0, 1, 5, 40])
            self.assertEqual(rest(first, start, end), spells_as_told(set(range(start, end + 1)) - ticks_in(first)))


if __name__ == "__main__":
    unittest.main()
