"""Point 2: arguments stay as they were, and what is returned is new at each call."""

import copy
import unittest

from truealmanac.events import eclipses, meetings, nodes, phases, risings, seasons
from truealmanac.feasts import feast_days, is_day
from truealmanac.finder import changes, paper, passings
from truealmanac.judge import changes_of, takes
from truealmanac.lunar import MoonTable, moon_table
from truealmanac.places import altitude
from truealmanac.sky import check_sky, elongation, latitude, longitude, terms_quantity
from truealmanac.tides import flow, height, is_port, tides
from truealmanac.zones import check_zone, local, ruled_zone, ticks_of
import samples

HILL = ("wave", ("turning", 0, 1296000, 97))
ANGLE = ("turning", 5, 7000, 1)


class Arguments(unittest.TestCase):
    def stays(self, call, *arguments):
        before = copy.deepcopy(arguments)
        call(*arguments)
        self.assertEqual(arguments, before)

    def test_judge(self):
        cells = paper(HILL, 0, 300)
        self.stays(takes, HILL, 0, 300, cells)
        self.stays(takes, HILL, 0, 300, cells[1:])
        self.stays(changes_of, HILL, cells)

    def test_skies(self):
        sky = samples.sky()
        self.stays(check_sky, sky)
        self.stays(terms_quantity, sky["bodies"]["moon"]["terms"])
        self.stays(longitude, sky, "moon")
        self.stays(latitude, sky, "moon")
        self.stays(elongation, sky, "moon", "sun")
        self.stays(altitude, sky, (1, 2), "moon")
        self.stays(risings, sky, (1, 2), "moon", 0, 0, 300)
        self.stays(seasons, sky, "moon", 0, 300)
        self.stays(phases, sky, "moon", "sun", 0, 300)
        self.stays(meetings, sky, "moon", "sun", 0, 300)
        self.stays(nodes, sky, "moon", 0, 300)
        self.stays(eclipses, sky, "moon", "sun", 5000, 5000, 0, 300)
        self.stays(moon_table, sky, "moon", "sun", 0, 20000)

    def test_other_modules(self):
        for call in (is_port, height, flow):
            self.stays(call, samples.port())
        self.stays(tides, samples.port(), 0, 900)
        self.stays(MoonTable, [1, 31, 60], [5, 40])
        self.stays(check_zone, (5, ((1, 2), (3, 4))))
        self.stays(local, (5, ((1, 2), (3, 4))), 7)
        self.stays(ticks_of, (5, ((1, 2), (3, 4))), 7)
        self.stays(ruled_zone, 5, [(10, 5, 6, 60, 60), (3, 5, 6, 60, 120)], 2000, 2010)
        feast = ("first", ("told", "a"), ("told", "b"))
        self.stays(is_day, feast, {"a": [5, 9], "b": [4]}, 5)
        self.stays(feast_days, feast, {"a": [5, 9], "b": [4]}, 0, 20)


class Results(unittest.TestCase):
    def new_each_time(self, call, *arguments):
        first = call(*arguments)
        told = copy.deepcopy(first)
        self.assertTrue(first)
        first.clear()
        self.assertEqual(call(*arguments), told)

    def test_lists(self):
        sky = samples.sky()
        self.new_each_time(paper, HILL, 0, 300)
        self.new_each_time(changes, HILL, 0, 300)
        self.new_each_time(passings, ANGLE, 0, 900)
        self.new_each_time(changes_of, HILL, paper(HILL, 0, 300))
        self.new_each_time(risings, sky, (1, 2), "moon", 0, 0, 900)
        self.new_each_time(seasons, sky, "moon", 0, 900)
        self.new_each_time(phases, sky, "moon", "sun", 0, 900)
        self.new_each_time(meetings, sky, "moon", "sun", 0, 900)
        self.new_each_time(nodes, sky, "moon", 0, 900)
        self.new_each_time(eclipses, sky, "moon", "sun", 10 ** 9, 10 ** 9, 0, 900)
        self.new_each_time(tides, samples.port(), 0, 3000)
        self.new_each_time(ticks_of, (5, ()), 7)
        self.new_each_time(feast_days, ("told", "a"), {"a": [5, 9]}, 0, 20)

    def test_a_told_list_is_not_given_away(self):
        facts = {"a": [5, 9]}
        feast_days(("told", "a"), facts, 0, 20).append(7)
        self.assertEqual(facts, {"a": [5, 9]})


class Interface(unittest.TestCase):
    def test_methods_stand_in_the_class(self):
        for name in ("date", "day", "years"):
            self.assertIn(name, vars(MoonTable))

    def test_functions_stand_in_their_files(self):
        for module, function in [
            ("finder", paper), ("finder", changes), ("judge", takes), ("sky", check_sky), ("places", altitude),
            ("events", eclipses), ("tides", tides), ("lunar", moon_table), ("zones", ruled_zone), ("feasts", is_day),
        ]:
            self.assertEqual(function.__module__, "truealmanac." + module)


if __name__ == "__main__":
    unittest.main()
