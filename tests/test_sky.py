"""Points 14, 15, 16 and the elongation of point 22."""

import unittest

from truealmanac.errors import SkyError
from truealmanac.quantities import is_angle, is_quantity
from truealmanac.sky import check_sky, elongation, latitude, longitude, terms_quantity
import samples

TOP = 10 ** 12
MOTION_BOUNDS = [(0, -TOP, TOP), (1, -TOP, TOP), (2, 1, TOP)]


def body():
    return {"motion": (1, 2, 3), "terms": [], "latitude": []}


def replaced(numbers, at, n):
    return (*numbers[:at], n, *numbers[at + 1:])


class Skies(unittest.TestCase):
    def fault(self, sky):
        """The code and name of the error that the check raises, or None."""
        try:
            self.assertIsNone(check_sky(sky))
        except SkyError as error:
            return error.code, error.name
        return None

    def with_bodies(self, bodies):
        return {"bodies": bodies, "tilt": 0, "turning": (0, 0, 1)}

    def test_right_skies(self):
        self.assertIsNone(self.fault(samples.sky()))
        self.assertIsNone(self.fault(self.with_bodies({"a": body()})))
        self.assertIsNone(self.fault(self.with_bodies({"abcdefgh": body(), "z": body()})))

    def test_number_of_bodies(self):
        names = "abcdefghi"
        self.assertEqual(self.fault(self.with_bodies({})), ("size", ""))
        self.assertIsNone(self.fault(self.with_bodies({name: body() for name in names[:8]})))
        self.assertEqual(self.fault(self.with_bodies({name: body() for name in names})), ("size", ""))

    def test_names(self):
        for name in ["", "abcdefghi", "Sun", "sUn", "su n", "s1", "_a", "sun\n", "\u00e4", "\u00b5", "`", "{"]:
            self.assertEqual(self.fault(self.with_bodies({name: body()})), ("name", name))

    def test_bounds_of_motions(self):
        for at, low, high in MOTION_BOUNDS:
            for n, fits in [(low, True), (high, True), (low - 1, False), (high + 1, False)]:
                motion = replaced((1, 2, 3), at, n)
                sky = self.with_bodies({"a": body() | {"motion": motion}})
                self.assertEqual(self.fault(sky), None if fits else ("motion", "a"))
                sky = self.with_bodies({"a": body()})
                sky["turning"] = motion
                self.assertEqual(self.fault(sky), None if fits else ("turning", ""))

    def test_bounds_of_terms(self):
        bounds = [(0, -10 ** 9, 10 ** 9), (1, -TOP, TOP), (2, -TOP, TOP), (3, 1, TOP)]
        for key in ("terms", "latitude"):
            for at, low, high in bounds:
                for n, fits in [(low, True), (high, True), (low - 1, False), (high + 1, False)]:
                    terms = [(1, 2, 3, 4), replaced((1, 2, 3, 4), at, n)]
                    sky = self.with_bodies({"a": body() | {key: terms}})
                    self.assertEqual(self.fault(sky), None if fits else (key, "a"))

    def test_number_of_terms(self):
        for key in ("terms", "latitude"):
            self.assertIsNone(self.fault(self.with_bodies({"a": body() | {key: [(1, 2, 3, 4)] * 20}})))
            sky = self.with_bodies({"a": body() | {key: [(1, 2, 3, 4)] * 21}})
            self.assertEqual(self.fault(sky), (key, "a"))

    def test_tilt(self):
        for tilt, fits in [(0, True), (324000, True), (-1, False), (324001, False)]:
            sky = samples.sky() | {"tilt": tilt}
            self.assertEqual(self.fault(sky), None if fits else ("tilt", ""))

    def test_the_first_fault_is_raised(self):
        wrong = {"motion": (0, 0, 0), "terms": [(0, 0, 0, 0)], "latitude": [(0, 0, 0, 0)]}
        sky = {"bodies": {"zz": wrong, "B": wrong, "aa": wrong}, "tilt": -1, "turning": (0, 0, 0)}
        self.assertEqual(self.fault(sky), ("name", "B"))
        del sky["bodies"]["B"]
        self.assertEqual(self.fault(sky), ("motion", "aa"))
        sky["bodies"]["aa"] = wrong | {"motion": (0, 0, 1)}
        self.assertEqual(self.fault(sky), ("terms", "aa"))
        sky["bodies"]["aa"] = body() | {"latitude": wrong["latitude"]}
        self.assertEqual(self.fault(sky), ("latitude", "aa"))
        sky["bodies"]["aa"] = body()
        self.assertEqual(self.fault(sky), ("motion", "zz"))
        sky["bodies"]["zz"] = body()
        self.assertEqual(self.fault(sky), ("tilt", ""))
        sky["tilt"] = 5
        self.assertEqual(self.fault(sky), ("turning", ""))
        many = {name: wrong for name in ["B", "1", "", *"cdefgh"]}
        self.assertEqual(self.fault({"bodies": many, "tilt": -1, "turning": (0, 0, 0)}), ("size", ""))


class Quantities(unittest.TestCase):
    def test_terms(self):
        first = ("share", ("wave", ("turning", 2, 3, 4)), -1, 1000000)
        second = ("share", ("wave", ("turning", -6, 7, 8)), 5, 1000000)
        self.assertEqual(terms_quantity([]), ("number", 0))
        self.assertEqual(terms_quantity([(-1, 2, 3, 4)]), ("sum", first))
        self.assertEqual(terms_quantity([(5, -6, 7, 8), (-1, 2, 3, 4)]), ("sum", second, first))

    def test_longitude_and_latitude(self):
        sky = samples.sky()
        terms = ("sum", ("share", ("wave", ("turning", 5, 1296000, 900)), 7000, 1000000))
        self.assertEqual(longitude(sky, "sun"), ("moved", ("turning", 1000, 1296000, 900), terms))
        self.assertEqual(latitude(sky, "sun"), ("number", 0))
        self.assertEqual(longitude(sky, "still"), ("moved", ("turning", 123, 0, 1), ("number", 0)))
        above = ("sum", ("share", ("wave", ("turning", 0, 1296000, 410)), 6600, 1000000))
        self.assertEqual(latitude(sky, "mars"), above)
        for name in sky["bodies"]:
            self.assertTrue(is_angle(longitude(sky, name)) and is_quantity(latitude(sky, name)))

    def test_elongation(self):
        sky = samples.sky()
        self.assertEqual(elongation(sky, "moon", "sun"), ("minus", longitude(sky, "moon"), longitude(sky, "sun")))

    def test_unknown_bodies(self):
        sky = samples.sky()
        for call, name in [
            (lambda: longitude(sky, "venus"), "venus"), (lambda: latitude(sky, ""), ""),
            (lambda: elongation(sky, "venus", "sun"), "venus"), (lambda: elongation(sky, "sun", "venus"), "venus"),
            (lambda: elongation(sky, "pluto", "venus"), "pluto"),
        ]:
            with self.assertRaises(SkyError) as caught:
                call()
            self.assertEqual((caught.exception.code, caught.exception.name), ("body", name))


if __name__ == "__main__":
    unittest.main()
