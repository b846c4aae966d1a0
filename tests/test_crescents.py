"""Point 47."""

import unittest

from truealmanac.crescents import young_moons
from truealmanac.errors import SkyError
from plain import altitude_as_told, elongation_as_told, error_of, plain_changes, plain_passings, plain_value, plain_wave
import samples

STAR = {"motion": (0, 0, 1), "terms": [], "latitude": []}


def plain_young_moons(sky, place, moon, sun, height, moon_height, angle, start, end):
    apart = elongation_as_told(sky, moon, sun)
    news = [t for t, way in plain_passings(apart, start, end) if way == 1]
    sun_up = ("sum", altitude_as_told(sky, place, sun), ("number", -plain_wave(height)))
    sets = [t for t, side in plain_changes(sun_up, start, end) if side == "down"]
    told = []
    for a, b in zip(news, [*news[1:], end + 1]):
        seen = [t for t in sets if a < t < b
                and plain_value(altitude_as_told(sky, place, moon), t) >= plain_wave(moon_height)
                and angle <= plain_value(apart, t) % 1296000 <= 648000]
        told.extend((t, "young", (moon, sun)) for t in seen[:1])
    return told, len(news)


class YoungMoons(unittest.TestCase):
    def setUp(self):
        self.sky = samples.sky()
        # The moon goes round in 1500 ticks, the sun in 9000.
        self.sky["bodies"]["moon"]["motion"] = (-5000, 1296000, 1500)
        self.sky["bodies"]["sun"]["motion"] = (-5000, 1296000, 9000)

    def test_against_every_tick(self):
        numbers = set()
        for place in samples.PLACES[:2]:
            for height, moon_height, angle in [
                (0, -324000, 0), (-3000, 5000, 40000), (0, 200000, 0), (0, 0, 600000), (0, -324000, 648000),
                (0, 324000, 0), (30000, -20000, 300000),
            ]:
                for start, end in [(0, 4000), (-1500, 300)]:
                    asked = (self.sky, place, "moon", "sun", height, moon_height, angle, start, end)
                    told, many = plain_young_moons(*asked)
                    found = young_moons(*asked)
                    self.assertEqual(found, told)
                    numbers.add((len(found) > 0, len(found) == many))
        # There are months with a young moon and months without.
        self.assertEqual(numbers, {(True, True), (True, False), (False, False)})

    def test_ends_of_the_span(self):
        found = young_moons(self.sky, (0, 0), "moon", "sun", 0, -324000, 0, 0, 9000)
        last = found[-1][0]
        self.assertEqual(young_moons(self.sky, (0, 0), "moon", "sun", 0, -324000, 0, 0, last), found)
        self.assertEqual(young_moons(self.sky, (0, 0), "moon", "sun", 0, -324000, 0, 0, last - 1), found[:-1])
        news = [t for t, way in plain_passings(elongation_as_told(self.sky, "moon", "sun"), 0, 9000) if way == 1]
        first = news[0]
        self.assertEqual(young_moons(self.sky, (0, 0), "moon", "sun", 0, -324000, 0, first - 1, 9000), found)
        # A new moon at the first tick of the span is not in it.
        self.assertEqual(young_moons(self.sky, (0, 0), "moon", "sun", 0, -324000, 0, first, 9000), found[1:])
        self.assertEqual(young_moons(self.sky, (0, 0), "moon", "sun", 0, -324000, 0, 5, 5), [])

    def turning_sky(self, moon):
        # The sun stands still and sets at the ticks 361, 1801 and so on.
        return {"bodies": {"sun": STAR, "moon": STAR | {"motion": moon}}, "tilt": 0, "turning": (0, 900, 1)}

    def test_sunsets_at_new_moons_do_not_count(self):
        # The new moons are at 361 and 13321.
        sky = self.turning_sky((-36100, 100, 1))
        self.assertEqual(young_moons(sky, (0, 0), "moon", "sun", 0, -324000, 0, 0, 20000),
                         [(1801, "young", ("moon", "sun")), (14761, "young", ("moon", "sun"))])
        # Each sunset is at a new moon.
        sky = self.turning_sky((-324900, 900, 1))
        self.assertEqual(young_moons(sky, (0, 0), "moon", "sun", 0, -324000, 0, 0, 20000), [])

    def test_bounds_of_the_elongation(self):
        # At the sunset 1801 the moon is 129600 ahead, at 3241 it is 259200 and at 7561 it is 648000.
        sky = self.turning_sky((-32490, 90, 1))
        for angle, told in [(0, [1801]), (129600, [1801]), (129601, [3241]), (259200, [3241]), (518401, [7561]),
                            (648000, [7561]), (648001, [])]:
            found = young_moons(sky, (0, 0), "moon", "sun", 0, -324000, angle, 0, 13000)
            self.assertEqual([t for t, _, _ in found], told)

    def test_bound_of_the_height(self):
        waves = {}
        for h in range(324000):
            waves[plain_wave(h)] = h
        # For the speed 118 the altitude is the wave of a height, for the other ones between two waves.
        for speed in (90, 100, 118):
            sky = self.turning_sky((-361 * speed, speed, 1))
            high = plain_value(altitude_as_told(sky, (0, 0), "moon"), 1801)
            self.assertEqual(high in waves, speed == 118)
            highest = waves[max(w for w in waves if w <= high)]
            for h, told in [(highest, 1801), (highest + 1, 3241)]:
                self.assertEqual(young_moons(sky, (0, 0), "moon", "sun", 0, h, 0, 0, 9000)[0][0], told)

    def test_unknown_bodies(self):
        for names, name in [(("venus", "sun"), "venus"), (("moon", "venus"), "venus"), (("pluto", "venus"), "pluto")]:
            found = error_of(SkyError, young_moons, self.sky, (0, 0), *names, 0, 0, 0, 0, 9)
            self.assertEqual(found, {"code": "body", "name": name})


if __name__ == "__main__":
    unittest.main()
