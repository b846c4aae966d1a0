"""Points 14, 26 and 27: ports, heights, flows and tides."""

import random
import unittest

from truealmanac.quantities import is_quantity
from truealmanac.tides import flow, height, is_port, tides
from plain import plain_changes, plain_value
import samples


class Ports(unittest.TestCase):
    def test_right_ports(self):
        self.assertIs(is_port(samples.port()), True)
        self.assertIs(is_port(("a", [(0, 0, 0, 1)])), True)
        self.assertIs(is_port(("abcdefgh", [(1, 2, 3, 4)] * 20)), True)

    def test_number_of_terms(self):
        self.assertIs(is_port(("a", [])), False)
        self.assertIs(is_port(("a", [(1, 2, 3, 4)] * 21)), False)

    def test_names(self):
        for name in ["", "abcdefghi", "Brest", "br1", "br st", "\u00e9"]:
            self.assertIs(is_port((name, [(1, 2, 3, 4)])), False, name)

    def test_bounds(self):
        bounds = [(0, -10 ** 5, 10 ** 5), (1, -10 ** 12, 10 ** 12), (2, -10 ** 6, 10 ** 6), (3, 1, 10 ** 6)]
        for at, low, high in bounds:
            for n, fits in [(low, True), (high, True), (low - 1, False), (high + 1, False)]:
                term = [1, 2, 3, 4]
                term[at] = n
                self.assertIs(is_port(("a", [(1, 2, 3, 4), tuple(term)])), fits, term)


class Tides(unittest.TestCase):
    def test_tuples(self):
        port = ("a", [(5, -1, 2, 3), (-7, 4, -5, 6)])
        self.assertEqual(height(port), (
            "sum", ("share", ("wave", ("turning", -1, 2, 3)), 5, 1000000),
            ("share", ("wave", ("turning", 4, -5, 6)), -7, 1000000)))
        self.assertEqual(flow(port), (
            "sum", ("share", ("wave", ("turning", 323999, 2, 3)), 10, 3000),
            ("share", ("wave", ("turning", 324004, -5, 6)), 35, 6000)))
        self.assertTrue(is_quantity(height(samples.port())) and is_quantity(flow(samples.port())))

    def plain_tides(self, port, start, end):
        words = {"down": "high", "up": "low"}
        return [(t, words[side], (port[0],)) for t, side in plain_changes(flow(port), start, end)]

    def test_against_every_tick(self):
        for start, end in [(0, 3000), (-2500, 0), (7, 7), (10 ** 9 - 900, 10 ** 9)]:
            found = tides(samples.port(), start, end)
            self.assertEqual(found, self.plain_tides(samples.port(), start, end))
            self.assertEqual(found, sorted(set(found)))
        self.assertEqual({e[1] for e in tides(samples.port(), 0, 3000)}, {"high", "low"})

    def test_random_ports(self):
        rng = random.Random(26)
        for _ in range(60):
            terms = [(rng.randint(-3000, 3000), rng.randint(-10 ** 6, 10 ** 6), rng.randint(-9000, 9000),
                      rng.randint(1, 20)) for _ in range(rng.randint(1, 5))]
            self.assertEqual(tides(("p", terms), -100, 300), self.plain_tides(("p", terms), -100, 300))

    def test_one_term(self):
        # A turn takes 720 ticks: the water is high a quarter behind 0.
        port = ("a", [(1000, 0, 1800, 1)])
        self.assertEqual(tides(port, 0, 720), [(181, "high", ("a",)), (540, "low", ("a",))])
        self.assertEqual(plain_value(height(port), 180), 1000)

    def test_still_water(self):
        self.assertEqual(tides(("a", [(1000, 5, 0, 1)]), 0, 600000), [])
        self.assertEqual(tides(("a", [(0, 5, 7000, 1)]), 0, 600000), [])


if __name__ == "__main__":
    unittest.main()
