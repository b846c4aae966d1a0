"""Point 45."""

import unittest

from truealmanac.contacts import contacts, nearness
from truealmanac.errors import SkyError
from truealmanac.quantities import is_quantity
from plain import coordinates_as_told, error_of, plain_changes, plain_value
import samples


def nearness_as_told(sky, first, second, c):
    x1, s1, z1 = coordinates_as_told(sky, first)
    x2, s2, z2 = coordinates_as_told(sky, second)
    X = ("sum", x1, ("share", x2, -1, 1))
    S = ("sum", s1, ("share", s2, -1, 1))
    Z = ("sum", z1, ("share", z2, -1, 1))
    squares = ("sum", ("product", X, X, 1000000), ("product", S, S, 1000000), ("product", Z, Z, 1000000))
    return ("sum", ("number", c * c // 1000000), ("share", squares, -1, 1))


class Contacts(unittest.TestCase):
    def setUp(self):
        self.sky = samples.sky()

    def test_the_quantity_of_the_document(self):
        for names in [("moon", "sun"), ("sun", "moon"), ("mars", "still")]:
            for limit in (1, 999, 1000, 123456, 2000000):
                q = nearness(self.sky, *names, limit)
                self.assertEqual(q, nearness_as_told(self.sky, *names, limit))
                self.assertTrue(is_quantity(q))

    def test_limits(self):
        # A limit is a chord: opposite bodies are 2000000 from each other, and 1000 is the least one with a square.
        star = {"motion": (0, 0, 1), "terms": [], "latitude": []}
        sky = {"bodies": {"a": star, "b": star | {"motion": (648000, 0, 1)}, "c": star}, "tilt": 0,
               "turning": (0, 0, 1)}
        self.assertEqual(plain_value(nearness(sky, "a", "b", 2000000), 0), 0)
        self.assertEqual(plain_value(nearness(sky, "a", "b", 1999999), 0), -4)
        self.assertEqual(plain_value(nearness(sky, "a", "c", 1000), 0), 1)
        self.assertEqual(plain_value(nearness(sky, "a", "c", 999), 0), 0)

    def test_against_every_tick(self):
        kinds = set()
        for names in [("moon", "sun"), ("still", "moon"), ("mars", "sun")]:
            for limit in (60000, 700000, 1900000):
                for start, end in [(0, 900), (-400, 100), (3, 3), (10 ** 9 - 300, 10 ** 9)]:
                    words = {"up": "begin", "down": "end"}
                    told = [(t, words[side], names) for t, side in
                            plain_changes(nearness_as_told(self.sky, *names, limit), start, end)]
                    found = contacts(self.sky, *names, limit, start, end)
                    self.assertEqual(found, told)
                    kinds |= {kind for _, kind, _ in found}
        self.assertEqual(kinds, {"begin", "end"})

    def test_unknown_bodies(self):
        for names, name in [(("venus", "sun"), "venus"), (("sun", "venus"), "venus"), (("pluto", "venus"), "pluto")]:
            told = {"code": "body", "name": name}
            self.assertEqual(error_of(SkyError, nearness, self.sky, *names, 5), told)
            self.assertEqual(error_of(SkyError, contacts, self.sky, *names, 5, 0, 9), told)


if __name__ == "__main__":
    unittest.main()
