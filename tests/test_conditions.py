"""Point 73, with points 20, 45, 65 and 72."""

import random
import unittest

from truealmanac.conditions import holds, observing_windows, spells_when
from truealmanac.errors import SkyError
from truealmanac.watches import plan, takes_plan
from plain import altitude_as_told, coordinates_as_told, error_of, plain_local, plain_value, plain_wave
import samples

PLACE = (180000, 40000)
ZONE = (60, ((700, 120), (2000, -300), (2900, 1500)))
NIGHT = ("local", ZONE, 0, 359)
LOW = ("above", "sun", -20000)


def is_true(sky, place, condition, t):
    word, *parts = condition
    if word == "above":
        return plain_value(altitude_as_told(sky, place, parts[0]), t) >= plain_wave(parts[1])
    if word == "apart":
        first, second, c = parts
        squares = 0
        for v, w in zip(coordinates_as_told(sky, first), coordinates_as_told(sky, second)):
            apart = plain_value(v, t) - plain_value(w, t)
            squares += apart * apart // 1000000
        return c * c // 1000000 < squares
    if word == "local":
        zone, begin, end = parts
        return begin <= plain_local(zone, t) % 1440 <= end
    truths = [is_true(sky, place, part, t) for part in parts]
    return {"and": all(truths), "or": any(truths), "not": not truths[0]}[word]


def spells_as_told(sky, place, condition, start, end):
    found = []
    for t in range(start, end + 1):
        if is_true(sky, place, condition, t):
            if found and found[-1][1] == t - 1:
                found[-1] = (found[-1][0], t)
            else:
                found.append((t, t))
    return found


def random_condition(rng, deep):
    word = rng.choice(["above", "apart", "local"] if deep <= 1 else ["above", "local", "and", "or", "not", "and", "or"])
    if word == "above":
        return (word, rng.choice(["sun", "moon", "mars"]), rng.choice([0, -20000, 100000, 300000, -324000]))
    if word == "apart":
        first, second = rng.sample(["sun", "moon", "mars", "still"], 2)
        return (word, first, second, rng.choice([1, 400000, 1500000, 2000000]))
    if word == "local":
        return (word, rng.choice([ZONE, (0, ())]), *sorted([rng.randint(0, 1439), rng.randint(0, 1439)]))
    parts = 1 if word == "not" else 2
    return (word, *[random_condition(rng, deep - 1) for _ in range(parts)])


class Conditions(unittest.TestCase):
    def check(self, condition, start, end, place=PLACE):
        sky = samples.sky()
        told = spells_as_told(sky, place, condition, start, end)
        self.assertEqual(spells_when(sky, place, condition, start, end), told)
        ticks = {t for begin, last in told for t in range(begin, last + 1)}
        for t in {start, end, (start + end) // 2, *[edge + k for pair in told[:9] for edge in pair for k in (-1, 0, 1)]}:
            if start <= t <= end:
                self.assertIs(holds(sky, place, condition, t), t in ticks)
        return told

    def test_above(self):
        for body in ("sun", "moon", "mars", "still"):
            for height in (0, -3000, 200000):
                self.check(("above", body, height), 0, 700)
        self.assertEqual(self.check(("above", "sun", 324000), 0, 300), [])
        self.assertEqual(self.check(("above", "sun", -324000), 0, 300), [(0, 300)])

    def test_a_height_that_is_just_reached(self):
        # A sky that turns by a quarter in 324 ticks, and a body in the plane of the place: its altitude is its wave.
        sky = {"bodies": {"a": {"motion": (0, 0, 1), "terms": [], "latitude": []}}, "tilt": 0, "turning": (0, 1000, 1)}
        for height in (0, 100000, -50000, 324000, 162000):
            condition = ("above", "a", height)
            found = spells_when(sky, (0, 0), condition, -700, 700)
            self.assertEqual(found, spells_as_told(sky, (0, 0), condition, -700, 700))
            least = min(plain_value(altitude_as_told(sky, (0, 0), "a"), t) for start, end in found for t in (start, end))
            # Equality is above, too.
            self.assertEqual(least, plain_wave(height))
            self.assertTrue(holds(sky, (0, 0), condition, found[0][0]))

    def test_apart(self):
        for limit in (1, 300000, 900000, 2000000):
            for pair in [("sun", "moon"), ("moon", "mars"), ("still", "mars")]:
                self.check(("apart", *pair, limit), 0, 500)
        # Equal directions are nearer than any limit, opposite ones as near as 2000000.
        sky = samples.sky()
        sky["bodies"]["twin"] = sky["bodies"]["still"]
        sky["bodies"]["other"] = {"motion": (123 + 648000, 0, 1), "terms": [], "latitude": []}
        self.assertEqual(spells_when(sky, PLACE, ("apart", "still", "twin", 1), 0, 50), [])
        told = spells_as_told(sky, PLACE, ("apart", "still", "other", 1999000), 0, 50)
        self.assertEqual(spells_when(sky, PLACE, ("apart", "still", "other", 1999000), 0, 50), told)
        self.assertEqual(told, [(0, 50)])

    def test_a_limit_that_is_just_reached(self):
        bodies = {name: {"motion": (s, 0, 1), "terms": [], "latitude": []} for name, s in [("a", 0), ("b", 324000)]}
        sky = {"bodies": bodies, "tilt": 0, "turning": (0, 0, 1)}
        # The squares make 2000000, and 1414214 is the least limit whose square is not less.
        for limit, near in [(1414213, False), (1414214, True)]:
            self.assertIs(holds(sky, PLACE, ("apart", "a", "b", limit), 5), not near)
            self.assertEqual(spells_when(sky, PLACE, ("apart", "a", "b", limit), 0, 9), [] if near else [(0, 9)])

    def test_values_around_the_edge(self):
        # The altitude of a, which stands still nearly in the zenith, is 1 less than, equal to and 1 above some wave.
        bodies = {name: {"motion": (s, 0, 1), "terms": [], "latitude": []} for name, s in [("a", 3000), ("b", 70000)]}
        sky = {"bodies": bodies, "tilt": 0, "turning": (0, 0, 1)}
        w = plain_value(altitude_as_told(sky, (0, 0), "a"), 5)
        for apart in (-2, -1, 0, 1, 2):
            height = [h for h in range(320000, 324000) if plain_wave(h) == w + apart][0]
            self.assertIs(holds(sky, (0, 0), ("above", "a", height), 5), apart <= 0)
            self.assertEqual(spells_when(sky, (0, 0), ("above", "a", height), 3, 7), [(3, 7)] if apart <= 0 else [])
        squares = 0
        for v, x in zip(coordinates_as_told(sky, "a"), coordinates_as_told(sky, "b")):
            squares += (plain_value(v, 5) - plain_value(x, 5)) ** 2 // 1000000
        for apart in (-2, -1, 0, 1, 2):
            limit = [c for c in range(1, 500000) if c * c // 1000000 == squares + apart][0]
            # With the same square the bodies are nearer, as the nearness is up.
            self.assertIs(holds(sky, (0, 0), ("apart", "a", "b", limit), 5), apart < 0)
            told = [(3, 7)] if apart < 0 else []
            self.assertEqual(spells_when(sky, (0, 0), ("apart", "a", "b", limit), 3, 7), told)

    def test_local(self):
        for begin, end in [(0, 0), (0, 1439), (1439, 1439), (700, 700), (0, 359), (1000, 1439), (300, 1200), (759, 761)]:
            for zone in [(0, ()), (60, ()), (-1500, ()), (1500, ()), ZONE, (0, ((1440, 1), (1441, 0), (1442, 1440)))]:
                for start, stop in [(-100, 3100), (0, 0), (700, 700), (1440, 2880), (1999, 2001)]:
                    self.check(("local", zone, begin, end), start, stop)
        self.assertEqual(self.check(("local", ZONE, 0, 1439), 0, 4000), [(0, 4000)])
        self.assertEqual(self.check(("local", (0, ()), 0, 0), 0, 4000), [(0, 0), (1440, 1440), (2880, 2880)])
        self.assertEqual(self.check(("local", (0, ()), 1439, 1439), 0, 4000), [(1439, 1439), (2879, 2879)])

    def test_days_that_are_joined(self):
        # From 22:00 to 24:00 or from 0:00 to 2:00.
        condition = ("or", ("local", (0, ()), 1320, 1439), ("local", (0, ()), 0, 120))
        self.assertEqual(self.check(condition, 0, 3000), [(0, 120), (1320, 1560), (2760, 3000)])

    def test_and_or_not(self):
        for word in ("and", "or"):
            for pair in [(NIGHT, LOW), (LOW, NIGHT), (LOW, LOW), (("not", LOW), LOW), (("not", NIGHT), NIGHT)]:
                self.check((word, *pair), 500, 2500)
        self.check(("not", NIGHT), 500, 2500)
        self.assertEqual(self.check(("and", LOW, ("not", LOW)), 0, 500), [])
        self.assertEqual(self.check(("or", LOW, ("not", LOW)), 0, 500), [(0, 500)])

    def test_six_deep(self):
        deep = ("not", ("or", NIGHT, ("not", ("and", LOW, ("not", ("above", "moon", 0))))))
        self.check(deep, 0, 2000)
        rng = random.Random(73)
        for _ in range(25):
            self.check(random_condition(rng, rng.choice([2, 3, 6])), *rng.choice([(0, 500), (-300, 100), (650, 750)]))

    def test_spans_of_one_tick(self):
        for t in (-5, 0, 300, 699, 700):
            for condition in (NIGHT, LOW, ("apart", "sun", "moon", 900000), ("not", LOW)):
                self.check(condition, t, t)


class Windows(unittest.TestCase):
    def test_least_lengths(self):
        sky = samples.sky()
        spells = spells_when(sky, PLACE, LOW, 0, 3000)
        lengths = sorted({end - start + 1 for start, end in spells})
        self.assertGreater(len(lengths), 1)
        for least in [0, 1, *lengths, *[n + 1 for n in lengths], *[n - 1 for n in lengths]]:
            told = [spell for spell in spells if spell[1] - spell[0] + 1 >= least]
            self.assertEqual(observing_windows(sky, PLACE, LOW, least, 0, 3000), told)

    def test_exactly_the_least_length(self):
        condition = ("local", (0, ()), 100, 199)
        for least, told in [(100, [(100, 199), (1540, 1639)]), (101, []), (99, [(100, 199), (1540, 1639)])]:
            self.assertEqual(observing_windows(samples.sky(), PLACE, condition, least, 0, 2880), told)
        # The span cuts the second one: 100 ticks are 99.
        self.assertEqual(observing_windows(samples.sky(), PLACE, condition, 100, 0, 1638), [(100, 199)])

    def test_they_are_windows(self):
        windows = observing_windows(samples.sky(), PLACE, LOW, 2, 0, 3000)
        self.assertTrue(takes_plan(windows, *plan(windows)))


class StrangeBodies(unittest.TestCase):
    def name(self, condition):
        told = [error_of(SkyError, holds, samples.sky(), PLACE, condition, 5),
                error_of(SkyError, spells_when, samples.sky(), PLACE, condition, 0, 9),
                error_of(SkyError, observing_windows, samples.sky(), PLACE, condition, 1, 0, 9)]
        self.assertEqual(told, [told[0]] * 3)
        if told[0] is None:
            return None
        self.assertEqual(told[0]["code"], "body")
        return told[0]["name"]

    def test_each_kind(self):
        self.assertEqual(self.name(("above", "pluto", 0)), "pluto")
        self.assertEqual(self.name(("apart", "pluto", "ceres", 5)), "pluto")
        self.assertEqual(self.name(("apart", "sun", "ceres", 5)), "ceres")
        self.assertEqual(self.name(("apart", "ceres", "sun", 5)), "ceres")
        self.assertIsNone(self.name(NIGHT))
        self.assertEqual(self.name(("not", ("above", "", 0))), "")

    def test_from_left_to_right(self):
        pluto, ceres, vesta = [("above", name, 0) for name in ("pluto", "ceres", "vesta")]
        always, never = ("local", (0, ()), 0, 1439), ("not", ("local", (0, ()), 0, 1439))
        for word in ("and", "or"):
            self.assertEqual(self.name((word, pluto, ceres)), "pluto")
            self.assertEqual(self.name((word, ceres, pluto)), "ceres")
            # What is on the left decides already, but the body is strange all the same.
            for left in (always, never):
                self.assertEqual(self.name((word, left, pluto)), "pluto")
                self.assertEqual(self.name((word, left, (word, left, ("not", (word, left, (word, ceres, pluto)))))), "ceres")
        deep = ("and", ("or", always, ("not", ("and", LOW, ("or", never, ("apart", "sun", "vesta", 9))))), ceres)
        self.assertEqual(self.name(deep), "vesta")


if __name__ == "__main__":
    unittest.main()
