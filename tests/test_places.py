"""Points 17 and 18."""

import random
import unittest

from truealmanac.errors import SkyError
from truealmanac.places import altitude
from truealmanac.quantities import is_quantity
from truealmanac.sky import latitude, longitude
from truealmanac.values import value
from plain import plain_wave
import samples


class Altitudes(unittest.TestCase):
    def test_the_tuple_of_the_document(self):
        sky = {
            "bodies": {"star": {"motion": (1, 2, 3), "terms": [], "latitude": [(4, 5, 6, 7)]}},
            "tilt": 81000,
            "turning": (8, 9, 10),
        }
        quarter = ("number", 324000)
        L = ("moved", ("turning", 1, 2, 3), ("number", 0))
        B = ("moved", ("turning", 0, 0, 1), ("sum", ("share", ("wave", ("turning", 5, 6, 7)), 4, 1000000)))
        T = ("turning", 8 + 5555, 9, 10)
        sin_l, cos_l = ("wave", L), ("wave", ("moved", L, quarter))
        sin_b, cos_b = ("wave", B), ("wave", ("moved", B, quarter))
        sin_t, cos_t = ("wave", T), ("wave", ("moved", T, quarter))
        x = ("product", cos_b, cos_l, 1000000)
        s = ("product", cos_b, sin_l, 1000000)
        z = sin_b
        E, F = 367187, 914062
        G, H = -687500, 687500
        self.assertEqual((E, F), (plain_wave(81000), plain_wave(405000)))
        self.assertEqual((G, H), (plain_wave(-162000), plain_wave(162000)))
        y = ("sum", ("share", s, F, 1000000), ("share", z, -E, 1000000))
        w = ("sum", ("share", s, E, 1000000), ("share", z, F, 1000000))
        told = (
            "sum",
            ("share", ("product", x, cos_t, 1000000), H, 1000000),
            ("share", ("product", y, sin_t, 1000000), H, 1000000),
            ("share", w, G, 1000000),
        )
        self.assertEqual(altitude(sky, (-162000, 5555), "star"), told)

    def test_poles(self):
        sky = samples.sky()
        for name in sky["bodies"]:
            q = altitude(sky, (324000, 0), name)
            self.assertEqual([part[2] for part in q[1:]], [0, 0, 1000000])
            self.assertEqual([part[2] for part in altitude(sky, (-324000, 0), name)[1:]], [0, 0, -1000000])
            # At a pole nothing depends on the turning.
            for t in range(0, 400, 37):
                self.assertEqual(value(q, t), value(q[3], t))

    def test_is_a_sine(self):
        rng = random.Random(18)
        sky = samples.sky()
        for place in samples.PLACES:
            for name in sky["bodies"]:
                q = altitude(sky, place, name)
                self.assertTrue(is_quantity(q))
                for _ in range(20):
                    self.assertLess(abs(value(q, rng.randint(-10 ** 6, 10 ** 6))), 1100000)

    def test_known_heights(self):
        # A body in the sky's own direction of longitude 0 stands overhead where this direction is.
        sky = {"bodies": {"star": {"motion": (0, 0, 1), "terms": [], "latitude": []}}, "tilt": 84381,
               "turning": (0, 900, 1)}
        heights = [value(altitude(sky, (0, 0), "star"), t) for t in (0, 360, 720, 1080, 1440)]
        self.assertEqual(heights, [1000000, 0, -1000000, 0, 1000000])
        self.assertEqual(value(altitude(sky, (0, 324000), "star"), 0), 0)
        self.assertEqual(value(altitude(sky, (0, -324000), "star"), 360), 1000000)

    def test_unknown_body(self):
        with self.assertRaises(SkyError) as caught:
            altitude(samples.sky(), (0, 0), "venus")
        self.assertEqual((caught.exception.code, caught.exception.name), ("body", "venus"))

    def test_uses_the_quantities_of_the_sky(self):
        sky = samples.sky()
        text = repr(altitude(sky, (5, 6), "moon"))
        self.assertIn(repr(longitude(sky, "moon")), text)
        self.assertIn(repr(latitude(sky, "moon")), text)


if __name__ == "__main__":
    unittest.main()
