"""Point 46."""

import unittest

from truealmanac.errors import SkyError
from truealmanac.meridian import east, meridian, south
from truealmanac.quantities import is_quantity
from plain import (
    cosine_as_told, error_of, plain_changes, plain_value, turned_coordinates_as_told, turning_as_told,
)
import samples


def east_as_told(sky, place, body):
    x, y, _ = turned_coordinates_as_told(sky, body)
    T = turning_as_told(sky, place)
    minus = ("share", ("product", x, ("wave", T), 1000000), -1, 1)
    return ("sum", ("product", y, cosine_as_told(T), 1000000), minus)


def south_as_told(sky, place, body):
    x, y, _ = turned_coordinates_as_told(sky, body)
    T = turning_as_told(sky, place)
    return ("sum", ("product", x, cosine_as_told(T), 1000000), ("product", y, ("wave", T), 1000000))


class Meridian(unittest.TestCase):
    def setUp(self):
        self.sky = samples.sky()

    def test_the_quantities_of_the_document(self):
        for place in samples.PLACES:
            for body in self.sky["bodies"]:
                self.assertEqual(east(self.sky, place, body), east_as_told(self.sky, place, body))
                self.assertEqual(south(self.sky, place, body), south_as_told(self.sky, place, body))
                self.assertTrue(is_quantity(east(self.sky, place, body)) and is_quantity(south(self.sky, place, body)))

    def plain_meridian(self, place, body, start, end):
        told = []
        for t, side in plain_changes(east_as_told(self.sky, place, body), start, end):
            southward = plain_value(south_as_told(self.sky, place, body), t)
            if side == "down" and southward > 0:
                told.append((t, "noon", (body,)))
            if side == "up" and southward < 0:
                told.append((t, "mid", (body,)))
        return told

    def test_against_every_tick(self):
        for place in samples.PLACES:
            for body in self.sky["bodies"]:
                for start, end in [(0, 500), (-200, 100), (7, 7)]:
                    told = self.plain_meridian(place, body, start, end)
                    self.assertEqual(meridian(self.sky, place, body, start, end), told)
        kinds = [kind for _, kind, _ in meridian(self.sky, (180000, 40000), "sun", 0, 2000)]
        self.assertEqual(set(kinds), {"noon", "mid"})
        self.assertTrue(all(kind != after for kind, after in zip(kinds, kinds[1:])))

    def test_noon_and_midnight(self):
        # The sky turns once a day, and the star stands in the south at the beginning of each.
        star = {"motion": (0, 0, 1), "terms": [], "latitude": []}
        sky = {"bodies": {"star": star}, "tilt": 84381, "turning": (0, 900, 1)}
        self.assertEqual(meridian(sky, (180000, 0), "star", 0, 2900), [
            (1, "noon", ("star",)), (720, "mid", ("star",)), (1441, "noon", ("star",)), (2160, "mid", ("star",)),
            (2881, "noon", ("star",))])
        # A star to the east comes there later.
        sky["bodies"]["star"] = star | {"motion": (90000, 0, 1)}
        times = [t for t, kind, _ in meridian(sky, (0, 0), "star", 0, 1440) if kind == "noon"]
        self.assertEqual([80 < t < 110 for t in times], [True])

    def test_changes_that_are_neither(self):
        # A sky that turns back: the east changes upwards in the south and downwards in the north.
        star = {"motion": (0, 0, 1), "terms": [], "latitude": []}
        sky = {"bodies": {"star": star}, "tilt": 0, "turning": (0, -900, 1)}
        self.assertTrue(plain_changes(east(sky, (0, 0), "star"), 0, 2900))
        self.assertEqual(meridian(sky, (0, 0), "star", 0, 2900), [])
        # At the pole of the sky there is no south.
        sky = {"bodies": {"star": star | {"latitude": [(324000, 324000, 0, 1)]}}, "tilt": 0, "turning": (0, 900, 1)}
        self.assertEqual(meridian(sky, (0, 0), "star", 0, 2900), [])

    def test_neither_south_nor_north(self):
        # So near to the pole of the sky that south and east are at most 4.
        star = {"motion": (0, 0, 1), "terms": [], "latitude": [(323999, 324000, 0, 1)]}
        for turning, side in [((0, 288000, 1), "down"), ((288000, 702000, 1), "up")]:
            sky = {"bodies": {"star": star}, "tilt": 0, "turning": turning}
            self.assertEqual(plain_changes(east_as_told(sky, (0, 0), "star"), 0, 1), [(1, side)])
            self.assertEqual(plain_value(south_as_told(sky, (0, 0), "star"), 1), 0)
            self.assertEqual(meridian(sky, (0, 0), "star", 0, 1), [])

    def test_the_least_south_and_north(self):
        # Near the pole of the sky the south is 1 or -1 when a body comes to the meridian.
        found = set()
        for at in range(323990, 324000):
            for turning in ((0, 288000, 1), (1000, 437000, 1), (77, 130001, 1)):
                star = {"motion": (0, 0, 1), "terms": [], "latitude": [(at, 324000, 0, 1)]}
                self.sky = {"bodies": {"star": star}, "tilt": 0, "turning": turning}
                self.assertEqual(meridian(self.sky, (0, 0), "star", 0, 150), self.plain_meridian((0, 0), "star", 0, 150))
                for t, kind, _ in meridian(self.sky, (0, 0), "star", 0, 150):
                    found.add((kind, plain_value(south_as_told(self.sky, (0, 0), "star"), t)))
        self.assertTrue({("noon", 1), ("mid", -1)} <= found)

    def test_unknown_body(self):
        told = {"code": "body", "name": "venus"}
        for call in (east, south):
            self.assertEqual(error_of(SkyError, call, self.sky, (0, 0), "venus"), told)
        self.assertEqual(error_of(SkyError, meridian, self.sky, (0, 0), "venus", 0, 9), told)


if __name__ == "__main__":
    unittest.main()
