"""Points 39 and 41."""

import random
import unittest

from truealmanac import events
from truealmanac.almanac import almanac, next_event, wish_events
from truealmanac.errors import SkyError, ZoneError
from truealmanac.stretches import stretches
from truealmanac.tides import tides
from plain import error_of, plain_local
import samples

WISHES = [
    ("risings", "mars", -3000), ("seasons", "sun"), ("phases", "moon", "sun"), ("meetings", "mars", "sun"),
    ("nodes", "moon"), ("eclipses", "moon", "sun", 9000, 6000), ("tides", samples.port()),
]
EMPTY = {"motion": (0, 0, 1), "terms": [], "latitude": []}
NO_PORT = ("brest", [])


def crossing(*ticks, period=10 ** 6):
    """A sky of bodies a, b and so on, whose latitudes go upwards at one tick each, and again after each period."""
    bodies = {}
    for name, tick in zip("abcdefgh", ticks):
        speed = 1296000 // period if period <= 1296000 else 1
        bodies[name] = EMPTY | {"latitude": [(10 ** 6, -speed * tick, speed, 1)]}
    return {"bodies": bodies, "tilt": 0, "turning": (0, 0, 1)}


def almanac_as_told(sky, place, zone, wishes, first, last):
    found = set()
    for wish in wishes:
        found |= set(wish_events(sky, place, wish, first * 1440 - 4000, last * 1440 + 6000))
    rows = {day: [] for day in range(first, last + 1)}
    for tick, kind, names in sorted(found):
        day, minute = divmod(plain_local(zone, tick), 1440)
        if day in rows:
            rows[day].append((minute, kind, names))
    return list(rows.items())


class Wishes(unittest.TestCase):
    def test_each_kind(self):
        sky = samples.sky()
        place = (180000, 40000)
        for start, end in [(0, 1500), (-700, 20), (4, 4)]:
            span = (start, end)
            told = [
                events.risings(sky, place, "mars", -3000, *span), events.seasons(sky, "sun", *span),
                events.phases(sky, "moon", "sun", *span), events.meetings(sky, "mars", "sun", *span),
                events.nodes(sky, "moon", *span), events.eclipses(sky, "moon", "sun", 9000, 6000, *span),
                tides(samples.port(), *span),
            ]
            self.assertEqual([wish_events(sky, place, wish, *span) for wish in WISHES], told)
            self.assertEqual(all(told), span == (0, 1500))

    def test_limits_of_eclipses(self):
        kinds = []
        for limits in [(10 ** 9, 0), (0, 10 ** 9)]:
            found = wish_events(samples.sky(), (0, 0), ("eclipses", "moon", "sun", *limits), 0, 3000)
            self.assertEqual(found, events.eclipses(samples.sky(), "moon", "sun", *limits, 0, 3000))
            kinds.append({kind for _, kind, _ in found})
        self.assertEqual(kinds, [{"solar"}, {"lunar"}])

    def test_errors(self):
        for wish, code, name in [
            (("risings", "venus", 0), "body", "venus"), (("seasons", "venus"), "body", "venus"),
            (("phases", "moon", "venus"), "body", "venus"), (("phases", "pluto", "venus"), "body", "pluto"),
            (("meetings", "venus", "moon"), "body", "venus"), (("nodes", "venus"), "body", "venus"),
            (("eclipses", "moon", "venus", 0, 0), "body", "venus"),
            (("tides", NO_PORT), "port", "brest"), (("tides", ("Brest", [(1, 2, 3, 4)])), "port", "Brest"),
            (("tides", ("brest", [(1, 2, 3, 0)])), "port", "brest"),
        ]:
            told = {"code": code, "name": name}
            self.assertEqual(error_of(SkyError, wish_events, samples.sky(), (0, 0), wish, 0, 9), told)
            self.assertEqual(error_of(SkyError, next_event, samples.sky(), (0, 0), wish, 0, 9), told)
            self.assertEqual(error_of(SkyError, almanac, samples.sky(), (0, 0), (0, ()), [wish], 0, 0), told)


class Almanacs(unittest.TestCase):
    def test_against_a_wider_search(self):
        sky = samples.sky()
        for zone in [(0, ()), (1500, ()), (-1500, ()), (60, ((2000, 120), (3000, -1500), (4100, 1500)))]:
            for first, last in [(0, 2), (-3, -3), (1, 2)]:
                told = almanac_as_told(sky, (5, 6), zone, WISHES, first, last)
                self.assertEqual(almanac(sky, (5, 6), zone, WISHES, first, last), told)

    def test_days_without_events(self):
        sky = crossing(2000)
        self.assertEqual(almanac(sky, (0, 0), (0, ()), [("nodes", "a")], -1, 2),
                         [(-1, []), (0, []), (1, [(560, "north", ("a",))]), (2, [])])
        self.assertEqual(almanac(sky, (0, 0), (0, ()), [], 7, 8), [(7, []), (8, [])])

    def test_first_and_last_minutes(self):
        for offset in (-1500, -1, 0, 1, 1500):
            for day in (0, 5, -3):
                first, last = day * 1440 - offset, day * 1440 + 1439 - offset
                sky = crossing(first - 1, first, last, last + 1)
                wishes = [("nodes", name) for name in "dcba"]
                self.assertEqual(almanac(sky, (0, 0), (offset, ()), wishes, day, day),
                                 [(day, [(0, "north", ("b",)), (1439, "north", ("c",))])])

    def test_events_at_one_tick(self):
        sky = crossing(100, 100)
        sky["bodies"]["b"]["motion"] = (-100, 1, 1)
        wishes = [("seasons", "b"), ("nodes", "b"), ("nodes", "a")]
        self.assertEqual(almanac(sky, (0, 0), (0, ()), wishes, 0, 0),
                         [(0, [(100, "north", ("a",)), (100, "north", ("b",)), (100, "season0", ("b",))])])

    def test_an_event_of_several_wishes_stands_once(self):
        sky = samples.sky()
        once = almanac(sky, (0, 0), (0, ()), [("eclipses", "moon", "sun", 10 ** 9, 10 ** 9)], 0, 1)
        self.assertTrue(once[0][1] and once[1][1])
        wishes = [("eclipses", "moon", "sun", 10 ** 9, limit) for limit in (0, 10 ** 9, 5000, 10 ** 9)]
        self.assertEqual(almanac(sky, (0, 0), (0, ()), wishes, 0, 1), once)
        twice = [("tides", samples.port()), ("tides", samples.port())]
        self.assertEqual(almanac(sky, (0, 0), (0, ()), twice, 0, 1), almanac(sky, (0, 0), (0, ()), twice[:1], 0, 1))

    def test_a_fold(self):
        # At the ticks 950 and 1010 it is the minute 1010; the rows are in the order of the ticks.
        sky = crossing(950, period=60)
        rows = almanac(sky, (0, 0), (60, ((1000, 0),)), [("nodes", "a")], 0, 0)[0][1]
        ups = [minute for minute, kind, _ in rows if kind == "north"]
        self.assertEqual(ups, [*range(50, 1011, 60), *range(1010, 1440, 60)])
        self.assertEqual(rows.count((1010, "north", ("a",))), 2)

    def test_a_fold_over_midnight(self):
        # The local day 0 comes again for an hour, so its last minutes have events of later ticks.
        sky = crossing(1430, 1450, 1470, 1490)
        zone = (0, ((1460, -60),))
        wishes = [("nodes", name) for name in "abcd"]
        self.assertEqual(almanac(sky, (0, 0), zone, wishes, 0, 1), [
            (0, [(1430, "north", ("a",)), (1410, "north", ("c",)), (1430, "north", ("d",))]),
            (1, [(10, "north", ("b",))])])

    def test_a_gap_of_a_day(self):
        sky = crossing(1430, 1450)
        zone = (0, ((1440, 1440),))
        self.assertEqual(almanac(sky, (0, 0), zone, [("nodes", "a"), ("nodes", "b")], 0, 2),
                         [(0, [(1430, "north", ("a",))]), (1, []), (2, [(10, "north", ("b",))])])

    def test_the_zone_is_checked_first(self):
        wishes = [("seasons", "venus"), ("tides", NO_PORT)]
        for zone, code in [((1501, ()), "offset"), ((0, ((5, 1), (5, 2))), "order"),
                           ((0, tuple((k, 0) for k in range(401))), "size")]:
            self.assertEqual(error_of(ZoneError, almanac, samples.sky(), (0, 0), zone, wishes, 0, 0), {"code": code})

    def test_the_wishes_are_checked_in_order(self):
        good = [("seasons", "sun"), ("tides", samples.port())]
        bad = [("tides", NO_PORT), ("seasons", "venus")]
        for wishes, code, name in [
            (good + bad, "port", "brest"), (good + bad[::-1], "body", "venus"),
            ([("phases", "pluto", "venus")] + bad, "body", "pluto"), ([bad[1], good[0], bad[0]], "body", "venus"),
        ]:
            told = {"code": code, "name": name}
            self.assertEqual(error_of(SkyError, almanac, samples.sky(), (0, 0), (0, ()), wishes, 0, 0), told)

    def test_a_year(self):
        sky = crossing(3 * 1440 + 7, 369 * 1440 + 9)
        entries = almanac(sky, (0, 0), (0, ()), [("nodes", "a"), ("nodes", "b")], 3, 369)
        self.assertEqual([day for day, _ in entries], list(range(3, 370)))
        self.assertEqual((entries[0], entries[-1]), ((3, [(7, "north", ("a",))]), (369, [(9, "north", ("b",))])))
        self.assertTrue(all(rows == [] for _, rows in entries[1:-1]))


class NextEvents(unittest.TestCase):
    def test_ends_of_the_limit(self):
        sky = crossing(1000)
        wish = ("nodes", "a")
        event = (1000, "north", ("a",))
        for tick, limit, told in [
            (999, 1, event), (999, 600000, event), (1000, 5, None), (990, 10, event), (989, 10, None), (990, 9, None),
            (-599000, 600000, event), (-599001, 600000, None), (-599000, 599999, None),
        ]:
            self.assertEqual(next_event(sky, (0, 0), wish, tick, limit), told, (tick, limit))

    def test_the_least_of_several_at_one_tick(self):
        # In one tick the body goes from 3 quarters and a little on to half a turn, past 0 and 1 quarter.
        sky = {"bodies": {"a": EMPTY | {"motion": (972001, 648000, 1)}}, "tilt": 0, "turning": (0, 0, 1)}
        found = wish_events(sky, (0, 0), ("seasons", "a"), 0, 1)
        self.assertGreater(len([event for event in found if event[0] == 1]), 1)
        self.assertEqual(next_event(sky, (0, 0), ("seasons", "a"), 0, 1), found[0])

    def test_against_all_events(self):
        rng = random.Random(41)
        sky = samples.sky()
        for wish in WISHES:
            found = wish_events(sky, (5, 6), wish, -3000, 9000)
            for _ in range(25):
                tick, limit = rng.randint(-3000, 6000), rng.choice([1, 7, 60, 500, 3000])
                told = [event for event in found if tick < event[0] <= tick + limit]
                self.assertEqual(next_event(sky, (5, 6), wish, tick, limit), told[0] if told else None)

    def test_stretches(self):
        self.assertEqual(stretches(5, 5, 10), [])
        self.assertEqual(stretches(5, 6, 10), [(5, 6)])
        self.assertEqual(stretches(-5, 65, 10), [(-5, 5), (5, 25), (25, 65)])
        self.assertEqual(stretches(-5, 66, 10), [(-5, 5), (5, 25), (25, 65), (65, 66)])


if __name__ == "__main__":
    unittest.main()
