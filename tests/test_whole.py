"""Points 1, 2 and 3: what holds over the whole program."""

import unittest

from truealmanac.almanac import almanac, next_event, wish_events
from truealmanac.books import book, read_book
from truealmanac.calendars import date_of, day_of, is_calendar, weekday
from truealmanac.chronology import chronology, fulfilled
from truealmanac.clocks import KeptClock, agreement
from truealmanac.conditions import observing_windows, spells_when
from truealmanac.contacts import contacts, nearness
from truealmanac.crescents import young_moons
from truealmanac.desk import Desk
from truealmanac.durations import add, difference
from truealmanac.eras import day_of_era, era_date
from truealmanac.errors import AlmanacError, SkyError, ZoneError
from truealmanac.events import eclipses, meetings, nodes, phases, risings, seasons
from truealmanac.finder import changes, moment, paper, passings, time_up
from truealmanac.fine import fine_moments, finer
from truealmanac.hours import next_turn, open_minutes
from truealmanac.judge import changes_of, takes
from truealmanac.leaps import counts_of, label
from truealmanac.lunar import moon_table
from truealmanac.meridian import east, meridian, south
from truealmanac.numerals import read_arc, read_roman
from truealmanac.offsets import meet, offset
from truealmanac.places import altitude
from truealmanac.quantities import is_angle, is_quantity
from truealmanac.ratios import fraction, minus, moment_fraction, over, plus, times
from truealmanac.reaches import angle_reach, most, reach
from truealmanac.reforms import days_of, full_date
from truealmanac.revisions import best_matching
from truealmanac.sky import check_sky
from truealmanac.skytext import read_sky, sky_text
from truealmanac.spells import length, spells_of
from truealmanac.tables import between, remainder, table_of
from truealmanac.tides import is_port, tides
from truealmanac.tops import takes_top, top, top_paper
from truealmanac.values import angle_value, value
from truealmanac.watches import plan
from truealmanac.waves import arch, wave
from truealmanac.workdays import count_working, go_on
from truealmanac.zones import check_zone, local, ruled_zone, ticks_of
from plain import error_of, plain_changes, plain_value, replaced
import samples

LAST = 10 ** 9
HILL = ("wave", ("turning", 0, 1296000, 97))
SLOW = ("wave", ("turning", 5, 1296000, 40007))
TURN = ("turning", 5, 1296000, 40007)
PLACE = (180000, 40000)


def slow_sky():
    sky = samples.sky()
    sky["bodies"]["moon"]["motion"] = (0, 1296000, 39343)
    sky["bodies"]["sun"]["motion"] = (9, 1296000, 525949)
    sky["turning"] = (77, 1296000, 1436)
    return sky


def span_calls(sky, start, end):
    """A call of each function that looks at a span."""
    return [
        (paper, HILL, start, end), (changes, HILL, start, end), (passings, TURN, start, end), (time_up, HILL, start, end),
        (risings, sky, PLACE, "sun", -3000, start, end), (seasons, sky, "sun", start, end),
        (phases, sky, "moon", "sun", start, end), (meetings, sky, "moon", "sun", start, end),
        (nodes, sky, "moon", start, end), (eclipses, sky, "moon", "sun", 5000, 5000, start, end),
        (tides, samples.port(), start, end), (wish_events, sky, PLACE, ("seasons", "sun"), start, end),
        (contacts, sky, "moon", "sun", 90000, start, end), (meridian, sky, PLACE, "sun", start, end),
        (young_moons, sky, PLACE, "moon", "sun", -3000, 0, 0, start, end), (top, SLOW, start, end),
        (top_paper, SLOW, start, end), (spells_of, HILL, start, end),
        (spells_when, sky, PLACE, ("not", ("local", (60, ()), 5, 900)), start, end),
        (observing_windows, sky, PLACE, ("above", "moon", 0), 100, start, end),
    ]


def other_calls(sky):
    """Calls of functions that divide or count something."""
    t = changes(HILL, 0, 300)[0][0]
    return [
        (arch, 77777), (wave, -77777), (value, HILL, 7), (angle_value, TURN, 7), (most, HILL), (reach, HILL, 7),
        (angle_reach, TURN, 7), (moment, HILL, t), (changes_of, HILL, paper(HILL, 0, 300)), (weekday, 9),
        (date_of, "julian", 99999), (day_of, "gregorian", (1999, 5, 7)), (local, (5, ()), 7), (ticks_of, (5, ()), 7),
        (ruled_zone, 5, [(10, 5, 6, 60, 60)], 2000, 2003), (almanac, sky, PLACE, (60, ()), [("nodes", "moon")], 0, 30),
        (next_event, sky, PLACE, ("nodes", "moon"), 0, 600000), (read_sky, sky_text(sky)), (agreement, [(1, 5), (2, 9)], 0),
        (between, table_of(HILL, 0, 7, 9), 12), (remainder, HILL, 7), (label, ((4, 1),), 7), (counts_of, ((4, 1),), (3, False)),
        (add, "julian", (5, 1, 31), (1, 1)), (difference, "julian", (5, 1, 31), (6, 1, 30)), (read_arc, "-12:05:09"),
        (read_roman, "MCMXC"), (count_working, (5, 6), [3], 1, 99), (go_on, (5, 6), [3], 1, 99), (finer, HILL, 10),
        (fine_moments, HILL, t, 10), (chronology, ["a", "b"], [("a", "b", 5, None)]),
        (fulfilled, ["a", "b"], [("a", "b", 5, None)]), (plan, [(1, 5), (3, 9)]), (offset, (0, 5, 6, 3), 1),
        (meet, [(0, 5, 6, 3)], 1), (full_date, ("julian", ((5, "gregorian"),)), 7),
        (days_of, ("julian", ((5, "gregorian"),)), (5, 1, 1)), (open_minutes, ((0, 99),), [], 1),
        (next_turn, ((0, 99),), [], (0, ()), 1), (era_date, (("a", 5),), 700), (day_of_era, (("a", 5),), ("a", 2, 1, 1)),
        (length, [(1, 5)]), (fraction, 6, 4), (plus, (1, 2), (1, 3)), (minus, (1, 2), (1, 3)), (times, (1, 2), (1, 3)),
        (over, (1, 2), (1, 3)), (moment_fraction, moment(HILL, t)), (best_matching, [1, 5], [2, 9], 4),
        (read_book, book(sky, PLACE, (0, ()), [("nodes", "moon")], {"a": ("weekday", 6)}, None, 0, 20)),
        (altitude, sky, PLACE, "moon"), (east, sky, PLACE, "moon"), (south, sky, PLACE, "moon"),
        (nearness, sky, "moon", "sun", 5000),
    ]


class Numbers(unittest.TestCase):
    def only_integers(self, told):
        if isinstance(told, dict):
            told = [part for pair in told.items() for part in pair]
        if isinstance(told, (list, tuple)):
            for part in told:
                self.only_integers(part)
        else:
            self.assertIn(type(told), (int, str, bool, type(None)))

    def test_no_floating_point_numbers(self):
        sky = slow_sky()
        for call, *arguments in span_calls(sky, -1000, 90000) + other_calls(sky):
            self.only_integers(call(*arguments))
        clock = KeptClock(17, 5, 9)
        clock.count(12345)
        self.only_integers(clock.known())
        table = moon_table(sky, "moon", "sun", 0, 600000)
        self.only_integers([table.date(300), table.years()])

    def test_the_same_again(self):
        sky = slow_sky()
        for call, *arguments in span_calls(sky, -1000, 90000) + other_calls(sky):
            first = call(*arguments)
            self.assertEqual(call(*arguments), first)

    def test_truths_are_no_numbers_in_skies(self):
        for truth in (True, False):
            for at in range(3):
                sky = samples.sky() | {"turning": replaced((1, 1, 1), at, truth)}
                self.assertEqual(error_of(SkyError, check_sky, sky), {"code": "turning", "name": ""})
                sky = samples.sky()
                sky["bodies"]["moon"]["motion"] = replaced((1, 1, 1), at, truth)
                self.assertEqual(error_of(SkyError, check_sky, sky), {"code": "motion", "name": "moon"})
            for key in ("terms", "latitude"):
                for at in range(4):
                    sky = samples.sky()
                    sky["bodies"]["moon"][key] = [(1, 1, 1, 1), replaced((1, 1, 1, 1), at, truth)]
                    self.assertEqual(error_of(SkyError, check_sky, sky), {"code": key, "name": "moon"})
            self.assertEqual(error_of(SkyError, check_sky, samples.sky() | {"tilt": truth}), {"code": "tilt", "name": ""})

    def test_truths_are_no_numbers_elsewhere(self):
        for truth in (True, False):
            for at in range(4):
                self.assertIs(is_port(("a", [replaced((1, 1, 1, 1), at, truth)])), False)
            self.assertIs(is_calendar((truth, ((30,),))), False)
            self.assertIs(is_calendar((1, ((truth,),))), False)
            self.assertIs(is_quantity(("number", truth)), False)
            self.assertIs(is_quantity(("later", HILL, truth)), False)
            self.assertIs(is_angle(("turning", 1, truth, 1)), False)
            self.assertEqual(error_of(ZoneError, check_zone, (truth, ())), {"code": "offset"})
            self.assertEqual(error_of(ZoneError, check_zone, (0, ((5, truth),))), {"code": "offset"})


class Spans(unittest.TestCase):
    def test_one_tick(self):
        sky = slow_sky()
        for t in (-LAST, -1, 0, LAST):
            for call, *arguments in span_calls(sky, t, t):
                told = call(*arguments)
                if call in (paper, top_paper):
                    self.assertEqual(told, [(t, 0)])
                elif call is top:
                    self.assertEqual(told, (value(SLOW, t), t))
                elif call in (time_up, spells_of):
                    up = value(HILL, t) >= 0
                    self.assertEqual(told, int(up) if call is time_up else [(t, t)] * up)
                elif call is not spells_when:
                    self.assertEqual(told, [])

    def test_the_first_and_last_ticks(self):
        sky = slow_sky()
        for start, end in [(-LAST, -LAST + 600000), (LAST - 600000, LAST)]:
            for call, *arguments in span_calls(sky, start, end):
                told = call(*arguments)
                # Events stand in the span, but not at its first tick.
                if isinstance(told, list) and call not in (paper, top_paper, spells_of, spells_when, observing_windows):
                    self.assertTrue(told or call in (seasons, eclipses, young_moons, wish_events))
                    self.assertTrue(all(start < event[0] <= end for event in told))
            cells = paper(SLOW, start, end)
            self.assertTrue(takes(SLOW, start, end, cells))
            self.assertEqual(changes_of(SLOW, cells), changes(SLOW, start, end))
            for t, side in changes(SLOW, start, end):
                self.assertEqual(plain_changes(SLOW, t - 1, t), [(t, side)])
            self.assertTrue(takes_top(SLOW, start, end, top(SLOW, start, end), top_paper(SLOW, start, end)))

    def test_spans_that_join(self):
        # What is found in a span is found in its parts, each moment once.
        sky = slow_sky()
        for call, *arguments in span_calls(sky, -5000, 60000):
            whole = call(*arguments)
            if call not in (paper, top_paper, top, time_up, spells_of, spells_when, observing_windows, young_moons):
                parts = [call(*arguments[:-2], start, end) for start, end in [(-5000, 0), (0, 1), (1, 777), (777, 60000)]]
                self.assertEqual(sum(parts, []), whole)
                self.assertEqual(whole, sorted(set(whole)))


class Errors(unittest.TestCase):
    def test_nothing_changes(self):
        desk = Desk(samples.sky())
        for line in ["PLACE 5 6", "PORT brest 1 2 3 4", "WISH tides brest", "WISH nodes moon"]:
            self.assertEqual(desk.answer(line), "OK")
        questions = ["NEXT 0 5000", "PAGE 0 1", "VALUE moon 5"]
        before = [desk.answer(line) for line in questions] + desk.log()
        for line in ["PLACE 5 324001 6", "PLACE 5", "PORT oslo 1 2 3 4 5", "PORT brest 9 9 9 9", "WISH tides oslo",
                     "WISH phases moon moon", "FORGET all", "OFFSET 1501", "DAY julian 1 2 30", "", "forget"]:
            self.assertTrue(desk.answer(line).startswith("NO "), line)
        self.assertEqual([desk.answer(line) for line in questions] + desk.log(), before)

    def test_each_error_is_one_of_the_program(self):
        sky = samples.sky()
        for call, *arguments in [
            (risings, sky, PLACE, "pluto", 0, 0, 9), (check_zone, (9999, ())), (day_of, "julian", (5, 13, 1)),
            (read_book, ""), (read_sky, ""), (read_arc, ""), (over, (1, 2), (0, 1)), (between, (0, 1, (5,)), 7),
            (moon_table, sky, "moon", "sun", 0, 1), (era_date, (("a", 5),), 4),
        ]:
            with self.assertRaises(AlmanacError):
                call(*arguments)


class FewMoments(unittest.TestCase):
    def test_papers_are_short(self):
        # A quantity that changes slowly is looked at a few times in half a million ticks.
        slow = ("sum", ("wave", ("turning", 0, 1296000, 400000)), ("number", 300000))
        cells = paper(slow, 0, 600000)
        self.assertLess(len(cells), 100)
        self.assertEqual(changes_of(slow, cells), changes(slow, 0, 600000))
        for t, side in changes(slow, 0, 600000):
            self.assertEqual([plain_value(slow, t - 1) >= 0, plain_value(slow, t) >= 0], [side == "down", side == "up"])

    def test_longer_cells_reach_further(self):
        for q in (HILL, SLOW, altitude(slow_sky(), PLACE, "moon")):
            reaches = [reach(q, k) for k in range(300)]
            self.assertEqual(reaches, sorted(reaches))
            self.assertEqual(reaches[0], 0)


if __name__ == "__main__":
    unittest.main()
