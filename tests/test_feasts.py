"""Point 38."""

import random
import unittest
from datetime import date as python_date

from truealmanac.calendars import day_of
from truealmanac.feasts import feast_days, is_day

FULL = [100, 129, 159, 188, 218, 248, 277]
FACTS = {"full": FULL, "spring": [80, 150, 188], "none": [], "far": [-900, 800]}
SUNDAY = ("weekday", 6)
EASTER = ("first", SUNDAY, ("shift", ("first", ("told", "full"), ("told", "spring")), 1))


def julian_date(day):
    """Month and day in the Julian calendar for days from 1 March of the year 1 to the year 99."""
    # Up to the year 99 both calendars have the same leap years, and the Julian one is 2 days ahead.
    told = python_date.fromordinal(day + 2)
    return told.month, told.day


def plain_is_day(feast, facts, day):
    word, *parts = feast
    if word == "weekday":
        return (day - 1) % 7 == parts[0]
    if word == "date":
        if parts[0] == "julian":
            return julian_date(day) == (parts[1], parts[2])
        told = python_date.fromordinal(day)
        return (told.month, told.day) == (parts[1], parts[2])
    if word == "told":
        return day in facts.get(parts[0], [])
    if word == "shift":
        return plain_is_day(parts[0], facts, day - parts[1])
    if word == "not":
        return not plain_is_day(parts[0], facts, day)
    if word == "and":
        return plain_is_day(parts[0], facts, day) and plain_is_day(parts[1], facts, day)
    if word == "or":
        return plain_is_day(parts[0], facts, day) or plain_is_day(parts[1], facts, day)
    if not plain_is_day(parts[0], facts, day):
        return False
    for y in range(day, day - 401, -1):
        if y < day and plain_is_day(parts[0], facts, y):
            return False
        if plain_is_day(parts[1], facts, y):
            return True
    return False


class Kinds(unittest.TestCase):
    def same(self, feast, facts, first, last, told):
        self.assertEqual(feast_days(feast, facts, first, last), told)
        for day in range(first, last + 1):
            self.assertIs(is_day(feast, facts, day), day in told, (feast, day))

    def test_weekdays(self):
        for w in range(7):
            self.same(("weekday", w), {}, -10, 20, [day for day in range(-10, 21) if (day - 1) % 7 == w])

    def test_dates(self):
        for calendar in ("gregorian", "julian"):
            for month, number in [(1, 1), (12, 31), (3, 1), (2, 28)]:
                told = [day_of(calendar, (year, month, number)) for year in range(2019, 2026)]
                feast = ("date", calendar, month, number)
                self.assertEqual(feast_days(feast, {}, told[0], told[-1]), told)
                self.assertEqual(feast_days(feast, {}, told[0] + 1, told[-1] - 1), told[1:-1])
                for day in told:
                    self.assertEqual([is_day(feast, {}, day + k) for k in (-1, 0, 1)], [False, True, False])

    def test_dates_that_a_year_does_not_have(self):
        first, last = day_of("gregorian", (1895, 1, 1)), day_of("gregorian", (1910, 1, 1))
        leap = ("date", "gregorian", 2, 29)
        self.assertEqual(feast_days(leap, {}, first, last),
                         [day_of("gregorian", (year, 2, 29)) for year in (1896, 1904, 1908)])
        self.assertEqual(len(feast_days(("date", "julian", 2, 29), {}, first, last)), 4)
        for month, number in [(2, 30), (4, 31), (13, 1), (0, 1), (1, 0), (1, 32)]:
            self.assertEqual(feast_days(("date", "gregorian", month, number), {}, first, last), [])

    def test_dates_far_away(self):
        feast = ("date", "gregorian", 1, 1)
        self.assertEqual(len(feast_days(feast, {}, 3990000, 4000000)), 27)
        self.assertEqual(len(feast_days(feast, {}, -4000000, -3990000)), 27)

    def test_told_days(self):
        self.same(("told", "full"), FACTS, 90, 220, [100, 129, 159, 188, 218])
        self.same(("told", "full"), FACTS, 100, 188, [100, 129, 159, 188])
        self.same(("told", "none"), FACTS, 90, 130, [])
        self.same(("told", "missing"), FACTS, 90, 130, [])

    def test_shifts(self):
        for n in (-400, -1, 0, 1, 400):
            self.assertEqual(feast_days(("shift", ("told", "full"), n), FACTS, -1000, 1000), [day + n for day in FULL])
        self.same(("shift", ("told", "full"), 3), FACTS, 103, 131, [103])
        self.same(("shift", ("told", "full"), -3), FACTS, 97, 126, [97, 126])

    def test_and_or_not(self):
        full, sunday = ("told", "full"), ("weekday", 2)
        days = [day for day in range(90, 290) if (day - 1) % 7 == 2]
        self.same(("and", full, sunday), FACTS, 90, 289, sorted(set(days) & set(FULL)))
        self.same(("or", full, sunday), FACTS, 90, 289, sorted(set(days) | set(FULL)))
        self.same(("not", full), FACTS, 90, 289, sorted(set(range(90, 290)) - set(FULL)))
        self.assertTrue(set(days) & set(FULL))


class First(unittest.TestCase):
    def test_the_example(self):
        self.assertEqual(feast_days(EASTER, FACTS, 0, 1000), [105, 161, 189])
        # 100, 159 and 188 are the full moons on or behind a spring; 189 itself is a Sunday.
        self.assertEqual([(day - 1) % 7 for day in (105, 161, 189)], [6, 6, 6])

    def test_known_easter(self):
        full = [python_date(2024, 3, 25).toordinal(), python_date(2024, 4, 23).toordinal()]
        facts = {"full": full, "spring": [python_date(2024, 3, 20).toordinal()]}
        self.assertEqual(feast_days(EASTER, facts, full[0] - 300, full[0] + 300), [python_date(2024, 3, 31).toordinal()])

    def test_ends_of_the_days(self):
        feast = ("first", ("told", "a"), ("told", "b"))
        for gap, there in [(0, True), (1, True), (399, True), (400, True), (401, False), (-1, False)]:
            facts = {"a": [gap], "b": [0]}
            self.assertEqual(feast_days(feast, facts, -500, 1000), [gap] if there else [])
            self.assertEqual(feast_days(feast, facts, gap, gap), [gap] if there else [])
            self.assertIs(is_day(feast, facts, gap), there)

    def test_only_the_first_one(self):
        feast = ("first", ("told", "a"), ("told", "b"))
        self.assertEqual(feast_days(feast, {"a": [5, 6, 20], "b": [5]}, 0, 50), [5])
        self.assertEqual(feast_days(feast, {"a": [5, 6, 20], "b": [5, 6]}, 0, 50), [5, 6])
        self.assertEqual(feast_days(feast, {"a": [5, 6, 20], "b": [4, 5, 7, 8]}, 0, 50), [5, 20])
        self.assertEqual(feast_days(feast, {"a": [500], "b": [0, 120]}, 0, 600), [500])

    def test_nested(self):
        feast = ("first", ("weekday", 0), ("first", ("weekday", 2), ("first", ("weekday", 4), ("told", "b"))))
        self.assertEqual(feast_days(feast, {"b": [1]}, -50, 50), [15])
        self.assertTrue(is_day(feast, {"b": [1]}, 15))

    def test_six_deep(self):
        far = ("told", "b")
        days = [0]
        for k in range(5):
            far = ("first", ("told", "a" + str(k)), far)
        facts = {"a" + str(k): [400 * (k + 1)] for k in range(5)} | {"b": days}
        self.assertTrue(is_day(far, facts, 2000))
        facts["a2"] = [1201]
        self.assertFalse(is_day(far, facts, 2000))


class Random(unittest.TestCase):
    def feast(self, rng, deep):
        if deep == 1:
            return rng.choice([
                ("weekday", rng.randint(0, 6)), ("told", rng.choice(["full", "spring", "none", "missing"])),
                ("date", rng.choice(["gregorian", "julian"]), rng.randint(1, 13), rng.randint(1, 31)),
            ])
        word = rng.choice(["shift", "and", "or", "not", "first", "first"])
        a = self.feast(rng, deep - 1)
        if word == "shift":
            return (word, a, rng.randint(-40, 40))
        if word == "not":
            return (word, a)
        return (word, a, self.feast(rng, rng.randint(1, deep - 1)))

    def test_against_each_day(self):
        rng = random.Random(38)
        begin = 12000
        for _ in range(150):
            facts = {name: sorted(rng.sample(range(begin - 300, begin + 300), rng.randint(1, 9)))
                     for name in ("full", "spring")}
            feast = self.feast(rng, rng.randint(1, 3))
            told = [day for day in range(begin, begin + 60) if plain_is_day(feast, facts, day)]
            self.assertEqual(feast_days(feast, facts, begin, begin + 59), told, feast)
            day = begin + rng.randint(0, 59)
            self.assertIs(is_day(feast, facts, day), day in told)


if __name__ == "__main__":
    unittest.main()
