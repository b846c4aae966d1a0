"""Point 2: arguments stay as they were, and what is returned is new at each call."""

import copy
import unittest

from truealmanac.almanac import almanac, next_event, wish_events
from truealmanac.books import book, read_book
from truealmanac.chronology import chronology, fulfilled, takes_circle
from truealmanac.clocks import KeptClock, agreement
from truealmanac.conditions import holds, observing_windows, spells_when
from truealmanac.contacts import contacts, nearness
from truealmanac.crescents import young_moons
from truealmanac.cycles import next_of_all
from truealmanac.desk import Desk
from truealmanac.durations import add, difference
from truealmanac.eras import day_of_era, era_date
from truealmanac.events import eclipses, meetings, nodes, phases, risings, seasons
from truealmanac.feasts import feast_days, is_day
from truealmanac.finder import changes, paper, passings
from truealmanac.fine import fine_moments
from truealmanac.hours import is_open, next_turn, open_minutes
from truealmanac.judge import changes_of, takes
from truealmanac.leaps import counts_of, label
from truealmanac.lunar import MoonTable, moon_table
from truealmanac.meridian import east, meridian, south
from truealmanac.network import Network
from truealmanac.notices import Bureau
from truealmanac.offsets import meet, offset
from truealmanac.pages import page_text, read_page
from truealmanac.papers import paper_text, read_paper
from truealmanac.places import altitude
from truealmanac.recurrences import next_day, occurrences, occurs
from truealmanac.reforms import days_of, full_date
from truealmanac.revisions import best_matching, report
from truealmanac.sky import check_sky, elongation, latitude, longitude, terms_quantity
from truealmanac.skytext import read_sky, sky_text
from truealmanac.spells import both, either, length, rest, spells_of
from truealmanac.tables import between, table_text
from truealmanac.tides import flow, height, is_port, tides
from truealmanac.tops import takes_top, top, top_paper
from truealmanac.watches import plan, takes_plan
from truealmanac.workdays import count_working, go_on, is_working
from truealmanac.zones import check_zone, local, ruled_zone, ticks_of
import samples

HILL = ("wave", ("turning", 0, 1296000, 97))
ANGLE = ("turning", 5, 7000, 1)
CYCLE = (3, ((30, 29), (31,)))


def wishes():
    return [("phases", "moon", "sun"), ("tides", samples.port()), ("phases", "moon", "sun")]


class Arguments(unittest.TestCase):
    def stays(self, call, *arguments):
        before = copy.deepcopy(arguments)
        call(*arguments)
        self.assertEqual(arguments, before)

    def test_judge(self):
        cells = paper(HILL, 0, 300)
        self.stays(takes, HILL, 0, 300, cells)
        self.stays(takes, HILL, 0, 300, cells[1:])
        self.stays(changes_of, HILL, cells)

    def test_skies(self):
        sky = samples.sky()
        self.stays(check_sky, sky)
        self.stays(terms_quantity, sky["bodies"]["moon"]["terms"])
        self.stays(longitude, sky, "moon")
        self.stays(latitude, sky, "moon")
        self.stays(elongation, sky, "moon", "sun")
        self.stays(altitude, sky, (1, 2), "moon")
        self.stays(risings, sky, (1, 2), "moon", 0, 0, 300)
        self.stays(seasons, sky, "moon", 0, 300)
        self.stays(phases, sky, "moon", "sun", 0, 300)
        self.stays(meetings, sky, "moon", "sun", 0, 300)
        self.stays(nodes, sky, "moon", 0, 300)
        self.stays(eclipses, sky, "moon", "sun", 5000, 5000, 0, 300)
        self.stays(moon_table, sky, "moon", "sun", 0, 20000)

    def test_other_modules(self):
        for call in (is_port, height, flow):
            self.stays(call, samples.port())
        self.stays(tides, samples.port(), 0, 900)
        self.stays(MoonTable, [1, 31, 60], [5, 40])
        self.stays(check_zone, (5, ((1, 2), (3, 4))))
        self.stays(local, (5, ((1, 2), (3, 4))), 7)
        self.stays(ticks_of, (5, ((1, 2), (3, 4))), 7)
        self.stays(ruled_zone, 5, [(10, 5, 6, 60, 60), (3, 5, 6, 60, 120)], 2000, 2010)
        feast = ("first", ("told", "a"), ("told", "b"))
        self.stays(is_day, feast, {"a": [5, 9], "b": [4]}, 5)
        self.stays(feast_days, feast, {"a": [5, 9], "b": [4]}, 0, 20)

    def test_almanacs(self):
        sky = samples.sky()
        for wish in wishes():
            self.stays(wish_events, sky, (1, 2), wish, 0, 900)
            self.stays(next_event, sky, (1, 2), wish, 0, 900)
        self.stays(almanac, sky, (1, 2), (5, ((1, 2), (3, 4))), wishes(), 0, 1)
        entries = almanac(sky, (1, 2), (0, ()), wishes(), 0, 1)
        self.stays(page_text, CYCLE, entries)
        self.stays(read_page, CYCLE, page_text(CYCLE, entries))
        self.stays(sky_text, sky)
        self.stays(Desk, sky)
        self.stays(Desk(sky).answer, "PORT brest 1 2 3 4")

    def test_more_of_the_sky(self):
        sky = samples.sky()
        for names in [("moon", "sun"), ("mars", "still")]:
            self.stays(nearness, sky, *names, 5000)
            self.stays(contacts, sky, *names, 500000, 0, 900)
            self.stays(young_moons, sky, (1, 2), *names, 0, 0, 0, 0, 900)
        for call in (east, south):
            self.stays(call, sky, (1, 2), "moon")
        self.stays(meridian, sky, (1, 2), "moon", 0, 900)

    def test_tables_and_clocks(self):
        self.stays(between, (0, 5, (1, 2, 3)), 7)
        self.stays(table_text, (0, 5, (1, 2, 3)))
        sources = [(5, 9), (0, 7), (-3, 1)]
        self.stays(agreement, sources, 1)
        self.stays(KeptClock(5, 0, 9).hear, sources, 1)
        self.stays(label, ((1, 1), (5, -1)), 7)
        self.stays(counts_of, ((1, 1), (5, -1)), (6, False))
        self.stays(add, "julian", (5, 1, 31), (1, 1))
        self.stays(difference, "julian", (5, 1, 31), (6, 1, 30))

    def test_recurrences_and_notices(self):
        for recurrence in [("days", 5, 3), ("weeks", 5, 3, (0, 5)), ("months", 5, 3, 0)]:
            self.stays(occurs, recurrence, 8)
            self.stays(occurrences, recurrence, 0, 99)
            self.stays(next_day, recurrence, 8)
        for holidays in ([], [3, 3, 8, 9]):
            self.stays(is_working, (5, 6), holidays, 3)
            self.stays(count_working, (5, 6), holidays, 1, 30)
            self.stays(go_on, (5, 6), holidays, 3, 5)
        self.stays(Bureau().hear, ("rome", 5, (0, ((1, 2),))))

    def test_papers_and_chronologies(self):
        cells = top_paper(HILL, 0, 300)
        self.stays(takes_top, HILL, 0, 300, top(HILL, 0, 300), cells)
        self.stays(takes_top, HILL, 0, 300, top(HILL, 0, 300), cells[1:])
        self.stays(paper_text, 0, 300, cells)
        for constraints in ([("a", "b", 5, 9), ("b", "c", None, 3)], [("a", "b", 5, 9), ("b", "a", None, -10)]):
            for names in (["c", "a", "b"], ["a", "c", "b"]):
                self.stays(chronology, names, constraints)
                self.stays(fulfilled, names, constraints)
            self.stays(takes_circle, constraints, ((0, 1), (1, 1)))

    def test_watches_and_networks(self):
        windows = [(5, 9), (1, 4), (3, 8), (3, 8)]
        self.stays(plan, windows)
        self.stays(takes_plan, windows, *plan(windows))
        self.stays(takes_plan, windows, (0, 1), (9, 4))
        self.stays(offset, (0, 5, 5, 0), 0)
        self.stays(meet, [(0, 5, 5, 0), (0, 4, 4, 0)], 0)
        self.stays(Network, ["b", "a", "c"], [("b", "a"), ("b", "a")])
        reform = ("julian", ((5, "gregorian"), (9, CYCLE)))
        self.stays(full_date, reform, 7)
        self.stays(days_of, reform, (1, 1, 7))

    def test_days_and_hours(self):
        self.stays(next_of_all, [(4, 1), (6, 3)], 9)
        self.stays(next_of_all, [(4, 1), (6, 2)], 9)
        week, closed = ((0, 50), (70, 90)), [3, 9]
        self.stays(is_open, week, closed, 1500)
        self.stays(open_minutes, week, closed, 3)
        self.stays(next_turn, week, closed, (5, ((1, 2), (1500, 4))), 7)
        self.stays(era_date, (("a", 5), ("b", 90)), 70)
        self.stays(day_of_era, (("a", 5), ("b", 90)), ("a", 1, 2, 9))

    def test_spells_and_books(self):
        first, second = [(1, 5), (7, 9), (20, 30)], [(5, 6), (11, 22)]
        for call in (both, either):
            self.stays(call, first, second)
        self.stays(rest, first, 0, 25)
        self.stays(length, first)
        sky = samples.sky()
        for condition in [("above", "sun", 0), ("apart", "sun", "moon", 900000), ("not", ("local", (0, ()), 5, 9))]:
            self.stays(holds, sky, (1, 2), condition, 5)
            self.stays(spells_when, sky, (1, 2), condition, 0, 300)
            self.stays(observing_windows, sky, (1, 2), condition, 5, 0, 300)
        feasts = {"b": ("told", "phase0"), "a": ("weekday", 6)}
        self.stays(book, sky, (1, 2), (5, ((1, 2), (3, 4))), wishes(), feasts, (("a", 0),), 0, 1)

    def test_revisions(self):
        self.stays(best_matching, [1, 5, 5], [5, 6], 3)
        self.stays(report, [(1, "a", ()), (5, "b", ("x",))], [(2, "a", ()), (9, "b", ("y",))], 3)


class Results(unittest.TestCase):
    def new_each_time(self, call, *arguments):
        first = call(*arguments)
        told = copy.deepcopy(first)
        self.assertTrue(first)
        first.clear()
        self.assertEqual(call(*arguments), told)

    def test_lists(self):
        sky = samples.sky()
        self.new_each_time(paper, HILL, 0, 300)
        self.new_each_time(changes, HILL, 0, 300)
        self.new_each_time(passings, ANGLE, 0, 900)
        self.new_each_time(changes_of, HILL, paper(HILL, 0, 300))
        self.new_each_time(risings, sky, (1, 2), "moon", 0, 0, 900)
        self.new_each_time(seasons, sky, "moon", 0, 900)
        self.new_each_time(phases, sky, "moon", "sun", 0, 900)
        self.new_each_time(meetings, sky, "moon", "sun", 0, 900)
        self.new_each_time(nodes, sky, "moon", 0, 900)
        self.new_each_time(eclipses, sky, "moon", "sun", 10 ** 9, 10 ** 9, 0, 900)
        self.new_each_time(tides, samples.port(), 0, 3000)
        self.new_each_time(ticks_of, (5, ()), 7)
        self.new_each_time(feast_days, ("told", "a"), {"a": [5, 9]}, 0, 20)

    def test_almanacs(self):
        sky = samples.sky()
        for wish in wishes():
            self.new_each_time(wish_events, sky, (1, 2), wish, 0, 900)
        self.new_each_time(almanac, sky, (1, 2), (0, ()), wishes(), 0, 1)
        text = page_text(CYCLE, almanac(sky, (1, 2), (0, ()), wishes(), 0, 1))
        self.new_each_time(read_page, CYCLE, text)
        self.new_each_time(read_sky, sky_text(sky))
        self.new_each_time(contacts, sky, "moon", "sun", 500000, 0, 900)
        self.new_each_time(meridian, sky, (1, 2), "moon", 0, 900)
        sky["bodies"]["moon"]["motion"] = (0, 1296000, 3000)
        sky["bodies"]["sun"]["motion"] = (0, 0, 1)
        self.new_each_time(young_moons, sky, (1, 2), "moon", "sun", 0, -324000, 0, 0, 9000)

    def test_rows_of_an_almanac_are_new(self):
        sky = samples.sky()
        entries = almanac(sky, (1, 2), (0, ()), wishes(), 0, 1)
        told = copy.deepcopy(entries)
        entries[0][1].clear()
        self.assertEqual(almanac(sky, (1, 2), (0, ()), wishes(), 0, 1), told)

    def test_other_lists(self):
        self.new_each_time(counts_of, ((1, 1), (5, -1)), (6, False))
        self.new_each_time(occurrences, ("weeks", 5, 3, (0, 5)), 0, 99)
        desk = Desk(samples.sky())
        desk.answer("OFFSET 5")
        self.new_each_time(desk.log)
        bureau = Bureau()
        bureau.hear(("rome", 5, (0, ())))
        self.new_each_time(bureau.kept)

    def test_papers_chronologies_and_networks(self):
        self.new_each_time(top_paper, HILL, 0, 300)
        self.new_each_time(fine_moments, HILL, changes(HILL, 0, 300)[0][0], 7)
        cells = read_paper("PAPER 1 2\n1 1\n")[2]
        cells.clear()
        self.assertEqual(read_paper("PAPER 1 2\n1 1\n"), (1, 2, [(1, 1)]))
        self.new_each_time(fulfilled, ["a", "b"], [("a", "b", 5, 9)])
        told = chronology(["a", "b"], [("a", "b", 5, 9)])
        told[1].clear()
        self.assertEqual(len(chronology(["a", "b"], [("a", "b", 5, 9)])[1]), 2)
        self.new_each_time(days_of, ("julian", ((5, "gregorian"),)), (5, 1, 1))
        network = Network(["b", "a"], [("b", "a")])
        network.tell("a", ("rome", 5, (0, ())))
        self.new_each_time(network.queue)

    def test_spells_and_books(self):
        sky = samples.sky()
        self.new_each_time(spells_of, HILL, 0, 300)
        self.new_each_time(both, [(1, 5)], [(2, 9)])
        self.new_each_time(either, [(1, 5)], [])
        self.new_each_time(either, [], [(1, 5)])
        self.new_each_time(rest, [], 0, 9)
        for condition in [("above", "sun", 0), ("local", (0, ()), 5, 9), ("or", ("local", (0, ()), 5, 9), ("above", "sun", 0))]:
            self.new_each_time(spells_when, sky, (1, 2), condition, 0, 300)
            self.new_each_time(observing_windows, sky, (1, 2), condition, 5, 0, 300)
        text = book(sky, (1, 2), (0, ()), wishes(), {"a": ("weekday", 6)}, None, 0, 1)
        self.new_each_time(read_book, text)
        told = read_book(text)
        told[0][1].clear()
        told[0][2].append("b")
        self.assertNotEqual(read_book(text), told)
        self.new_each_time(best_matching, [1, 5, 5], [5, 6], 3)

    def test_lists_of_spells_are_not_given_away(self):
        spells = [(1, 5), (8, 9)]
        for told in (either(spells, []), either([], spells), both(spells, [(0, 20)]), both([(0, 20)], spells)):
            self.assertEqual(told, spells)
            told.append((30, 40))
        self.assertEqual(spells, [(1, 5), (8, 9)])

    def test_a_told_list_is_not_given_away(self):
        facts = {"a": [5, 9]}
        feast_days(("told", "a"), facts, 0, 20).append(7)
        self.assertEqual(facts, {"a": [5, 9]})


if __name__ == "__main__":
    unittest.main()
