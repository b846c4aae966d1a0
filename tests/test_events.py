"""Points 19 to 25, 27 and 28: each kind of event against a search at every tick."""

import unittest

from truealmanac.errors import SkyError
from truealmanac.events import eclipses, meetings, nodes, phases, risings, seasons
from truealmanac.places import altitude
from truealmanac.sky import elongation, latitude, longitude
from plain import QUARTER, plain_changes, plain_passings, plain_value, plain_wave
import samples

SPANS = [(0, 2500), (-1700, 300), (5, 5), (10 ** 9 - 700, 10 ** 9)]


class Events(unittest.TestCase):
    def setUp(self):
        self.sky = samples.sky()

    def same(self, found, told):
        self.assertEqual(found, sorted(set(told)))

    def kinds(self, found):
        return {kind for _, kind, _ in found}

    def quarters(self, a, names, words, start, end):
        told = []
        for k in range(4):
            for t, way in plain_passings(("moved", a, ("number", -QUARTER * k)), start, end):
                told.append((t, words[way] + str(k), names))
        return told

    def test_risings(self):
        kinds = set()
        for place in samples.PLACES:
            for body, h in [("sun", 0), ("moon", -3000), ("mars", 100000), ("still", 324000), ("sun", -324000)]:
                for start, end in [(0, 700), (-300, 50)]:
                    q = ("sum", altitude(self.sky, place, body), ("number", -plain_wave(h)))
                    told = [(t, {"up": "rise", "down": "set"}[side], (body,)) for t, side in
                            plain_changes(q, start, end)]
                    found = risings(self.sky, place, body, h, start, end)
                    self.same(found, told)
                    kinds |= self.kinds(found)
        self.assertEqual(kinds, {"rise", "set"})

    def test_risings_at_a_pole(self):
        # There the sun rises and sets with its year alone.
        found = risings(self.sky, (324000, 0), "sun", 0, 0, 2500)
        self.assertEqual([kind for _, kind, _ in found], ["set", "rise", "set", "rise", "set"])

    def test_seasons(self):
        kinds = set()
        for body in self.sky["bodies"]:
            for start, end in SPANS:
                told = self.quarters(longitude(self.sky, body), (body,), {1: "season", -1: "back"}, start, end)
                found = seasons(self.sky, body, start, end)
                self.same(found, told)
                kinds |= self.kinds(found)
        self.assertEqual(kinds, {word + str(k) for word in ("season", "back") for k in range(4)})

    def test_phases(self):
        kinds = set()
        for moon, sun in [("moon", "sun"), ("sun", "moon"), ("mars", "still"), ("mars", "moon")]:
            for start, end in SPANS:
                told = self.quarters(elongation(self.sky, moon, sun), (moon, sun), {1: "phase", -1: "wane"}, start, end)
                found = phases(self.sky, moon, sun, start, end)
                self.same(found, told)
                kinds |= self.kinds(found)
        self.assertEqual(kinds, {word + str(k) for word in ("phase", "wane") for k in range(4)})

    def test_meetings(self):
        kinds = set()
        for names in [("moon", "sun"), ("sun", "mars"), ("mars", "still"), ("still", "moon")]:
            for start, end in SPANS:
                apart = elongation(self.sky, *names)
                told = [(t, "meet", names) for t, _ in plain_passings(apart, start, end)]
                opposite = ("moved", apart, ("number", -2 * QUARTER))
                told += [(t, "oppose", names) for t, _ in plain_passings(opposite, start, end)]
                found = meetings(self.sky, *names, start, end)
                self.same(found, told)
                kinds |= self.kinds(found)
        self.assertEqual(kinds, {"meet", "oppose"})

    def test_nodes(self):
        for body in self.sky["bodies"]:
            for start, end in SPANS:
                told = [(t, {"up": "north", "down": "south"}[side], (body,)) for t, side in
                        plain_changes(latitude(self.sky, body), start, end)]
                self.same(nodes(self.sky, body, start, end), told)
        self.assertEqual(self.kinds(nodes(self.sky, "moon", 0, 2500)), {"north", "south"})
        self.assertEqual(nodes(self.sky, "sun", 0, 600000), [])

    def plain_eclipses(self, moon, sun, solar, lunar, start, end):
        told = []
        for kind, k, limit in [("solar", 0, solar), ("lunar", 2, lunar)]:
            a = ("moved", elongation(self.sky, moon, sun), ("number", -QUARTER * k))
            for t, way in plain_passings(a, start, end):
                if way == 1 and abs(plain_value(latitude(self.sky, moon), t)) <= limit:
                    told.append((t, kind, (moon, sun)))
        return told

    def test_eclipses(self):
        for moon, sun in [("moon", "sun"), ("sun", "moon"), ("mars", "still")]:
            for solar, lunar in [(0, 0), (9000, 6000), (10 ** 9, 0), (0, 10 ** 9), (10 ** 9, 10 ** 9)]:
                for start, end in SPANS:
                    told = self.plain_eclipses(moon, sun, solar, lunar, start, end)
                    self.same(eclipses(self.sky, moon, sun, solar, lunar, start, end), told)

    def test_limits_of_eclipses(self):
        for kind in ("solar", "lunar"):
            t = [t for t, k, _ in eclipses(self.sky, "moon", "sun", 10 ** 9, 10 ** 9, 0, 3000) if k == kind][0]
            size = abs(plain_value(latitude(self.sky, "moon"), t))
            for limit, there in [(size, True), (size - 1, False)]:
                found = eclipses(self.sky, "moon", "sun", limit, limit, 0, 3000)
                self.assertIs((t, kind, ("moon", "sun")) in found, there)

    def test_long_span(self):
        found = phases(self.sky, "moon", "sun", 0, 600000)
        self.assertEqual(found, sorted(set(found)))
        self.assertEqual([e for e in found if e[0] <= 2500], phases(self.sky, "moon", "sun", 0, 2500))
        # The moon is ahead of the sun by a turn in each 1 / (1 / 200 - 1 / 900) ticks.
        self.assertEqual(sum(1 for e in found if e[1] == "phase0"), 600000 * 7 // 1800)

    def test_unknown_bodies(self):
        sky = self.sky
        for call, name in [
            (lambda: risings(sky, (0, 0), "venus", 0, 0, 9), "venus"),
            (lambda: seasons(sky, "venus", 0, 9), "venus"),
            (lambda: phases(sky, "venus", "sun", 0, 9), "venus"),
            (lambda: phases(sky, "sun", "venus", 0, 9), "venus"),
            (lambda: phases(sky, "pluto", "venus", 0, 9), "pluto"),
            (lambda: meetings(sky, "moon", "venus", 0, 9), "venus"),
            (lambda: meetings(sky, "pluto", "venus", 0, 9), "pluto"),
            (lambda: nodes(sky, "venus", 0, 9), "venus"),
            (lambda: eclipses(sky, "moon", "venus", 0, 0, 0, 9), "venus"),
            (lambda: eclipses(sky, "pluto", "venus", 0, 0, 0, 9), "pluto"),
        ]:
            with self.assertRaises(SkyError) as caught:
                call()
            self.assertEqual((caught.exception.code, caught.exception.name), ("body", name))


if __name__ == "__main__":
    unittest.main()
