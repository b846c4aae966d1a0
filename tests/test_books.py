"""Point 74, with points 38, 39 and 40."""

import random
import unittest

from truealmanac.almanac import almanac
from truealmanac.books import book, read_book
from truealmanac.calendars import date_of, weekday
from truealmanac.errors import BookError, SkyError, ZoneError
from truealmanac.feasts import feast_days
from plain import error_of, replaced
import samples

PLACE = (180000, 40000)
ZONE = (60, ((2000, 120),))
ERAS = (("old", -400), ("new", 1), ("newer", 3))
FEASTS = {
    "sunday": ("weekday", 6),
    "after": ("first", ("weekday", 6), ("told", "north")),
    "newyear": ("date", "gregorian", 1, 1),
    "never": ("told", "nothing"),
}


def slow_sky():
    """A sky in which few days have events."""
    sky = samples.sky()
    sky["bodies"]["sun"] = {"motion": (0, 1296000, 525949), "terms": [], "latitude": []}
    sky["bodies"]["moon"] = {"motion": (5000, 1296000, 39343), "terms": [], "latitude": [(18000, 5, 1296000, 39000)]}
    return sky


WISHES = [("phases", "moon", "sun"), ("nodes", "moon"), ("seasons", "sun")]


def book_as_told(sky, place, zone, wishes, feasts, eras, first, last):
    """The lines of the book of some days."""
    facts = {}
    rows_of = dict(almanac(sky, place, zone, wishes, first - 10, last + 10))
    for day, rows in rows_of.items():
        for _, kind, _ in rows:
            if day not in facts.setdefault(kind, []):
                facts[kind].append(day)
    lines = [f"BOOK {first} {last}"]
    begun = [era for era in eras or () if era[1] <= first]
    if begun:
        name, day = begun[-1]
        lines.append(f"ERA {name} {date_of('gregorian', first)[0] - date_of('gregorian', day)[0] + 1}")
    for day in range(first, last + 1):
        names = [name for name in sorted(feasts) if feast_days(feasts[name], facts, day, day)]
        if rows_of[day] or names:
            year, month, number = date_of("gregorian", day)
            lines.append(f"DAY {day} {year} {month} {number} {weekday(day)}")
            lines += ["%02d:%02d %s" % (m // 60, m % 60, " ".join([kind, *words])) for m, kind, words in rows_of[day]]
            lines += [f"FEAST {name}" for name in names]
    return lines


def text_of(lines):
    return "".join(line + "\n" for line in lines)


class Books(unittest.TestCase):
    def check(self, sky, zone, wishes, feasts, eras, first, last):
        told = book_as_told(sky, PLACE, zone, wishes, feasts, eras, first, last)
        self.assertEqual(book(sky, PLACE, zone, wishes, feasts, eras, first, last), text_of(told))
        return told

    def read_back(self, lines, sky, zone, wishes, first, last):
        found = read_book(text_of(lines))
        entries = dict(almanac(sky, PLACE, zone, wishes, first, last))
        for day, rows, names in found:
            self.assertEqual(rows, entries.pop(day))
            at = lines.index([line for line in lines if line.startswith(f"DAY {day} ")][0]) + 1 + len(rows)
            self.assertEqual([f"FEAST {name}" for name in names], lines[at:at + len(names)])
        self.assertFalse([day for day, rows in entries.items() if rows])
        self.assertEqual(len(found), len([line for line in lines if line.startswith("DAY")]))

    def test_books(self):
        for sky in (slow_sky(), samples.sky()):
            for first, last in [(-3, 12), (1, 1), (0, 0), (100, 140)]:
                for eras in (None, ERAS, ERAS[1:]):
                    lines = self.check(sky, ZONE, WISHES, FEASTS, eras, first, last)
                    self.read_back(lines, sky, ZONE, WISHES, first, last)

    def test_a_book_word_by_word(self):
        sky = {"bodies": {"a": {"motion": (-1500, 1, 1), "terms": [], "latitude": []}}, "tilt": 0, "turning": (0, 0, 1)}
        text = book(sky, (0, 0), (0, ()), [("seasons", "a")], {"y": ("weekday", 0), "x": ("told", "season0"),
                                                               "z": ("weekday", 3)}, (("e", -366), ("f", 2)), -1, 4)
        self.assertEqual(text, "BOOK -1 4\nERA e 2\nDAY 1 1 1 1 0\n01:00 season0 a\nFEAST x\nFEAST y\nDAY 4 1 1 4 3\n"
                               "FEAST z\n")
        self.assertEqual(read_book(text), [(1, [(60, "season0", ("a",))], ["x", "y"]), (4, [], ["z"])])

    def test_without_wishes_feasts_and_eras(self):
        sky = slow_sky()
        self.assertEqual(book(sky, PLACE, ZONE, [], {}, None, 5, 40), "BOOK 5 40\n")
        self.assertEqual(read_book("BOOK 5 40\n"), [])
        self.assertEqual(book(sky, PLACE, ZONE, [], {}, ERAS, 5, 40), "BOOK 5 40\nERA newer 1\n")
        self.assertEqual(read_book("BOOK 5 40\nERA newer 1\n"), [])
        self.assertEqual(book(sky, PLACE, ZONE, [], {}, (), 5, 40), "BOOK 5 40\n")
        self.check(sky, ZONE, WISHES, {}, None, 5, 40)
        lines = self.check(sky, ZONE, [], FEASTS, None, 5, 40)
        self.assertEqual(lines[1:3], ["DAY 7 1 1 7 6", "FEAST sunday"])
        # All feasts that need no facts.
        self.check(sky, ZONE, [], {"a": ("not", ("told", "x")), "b": ("weekday", 2)}, ERAS, -5, 9)

    def test_eras(self):
        sky = slow_sky()
        for first, told in [(-401, None), (-400, "ERA old 1"), (-364, "ERA old 2"), (0, "ERA old 2"), (1, "ERA new 1"),
                            (2, "ERA new 1"), (3, "ERA newer 1"), (367, "ERA newer 2")]:
            lines = self.check(sky, ZONE, [], {}, ERAS, first, first + 20)
            self.assertEqual(lines[1:], [] if told is None else [told])

    def test_days_with_one_thing_alone(self):
        # Rows alone, feasts alone, both, and neither.
        lines = self.check(slow_sky(), ZONE, WISHES, FEASTS, None, 0, 60)
        found = read_book(text_of(lines))
        kinds = {(bool(rows), bool(names)) for _, rows, names in found}
        self.assertEqual(kinds, {(True, False), (False, True), (True, True)})
        self.assertLess(len(found), 61)

    def test_1_day_and_367_days(self):
        for days in (1, 367):
            lines = self.check(slow_sky(), ZONE, WISHES, FEASTS, ERAS, -30, -30 + days - 1)
            self.read_back(lines, slow_sky(), ZONE, WISHES, -30, -30 + days - 1)

    def test_facts_from_ten_days_around(self):
        # The body passes 0 on day 50 alone.
        body = {"motion": (-50 * 1440 - 700, 1, 1), "terms": [], "latitude": []}
        sky = {"bodies": {"a": body}, "tilt": 0, "turning": (0, 0, 1)}
        wishes = [("seasons", "a")]
        for n, first, last, told in [(9, 58, 70, True), (9, 59, 70, True), (10, 60, 70, True), (11, 61, 70, False),
                                     (12, 62, 70, False), (-10, 30, 40, True), (-11, 30, 39, False), (-10, 40, 40, True),
                                     (-12, 30, 38, False), (13, 60, 70, True), (400, 440, 460, False)]:
            lines = self.check(sky, ZONE, wishes, {"x": ("shift", ("told", "season0"), n)}, None, first, last)
            self.assertEqual(lines[1:], [f"DAY {50 + n} 1 {date_of('gregorian', 50 + n)[1]} "
                                         f"{date_of('gregorian', 50 + n)[2]} {weekday(50 + n)}", "FEAST x"] if told else [])

    def test_local_days(self):
        # Ten minutes ahead of midnight at longitude 0, but behind it in the zone.
        body = {"motion": (-5 * 1440 + 10, 1, 1), "terms": [], "latitude": []}
        sky = {"bodies": {"a": body}, "tilt": 0, "turning": (0, 0, 1)}
        feasts = {"x": ("told", "season0")}
        for zone, day, minute in [((0, ()), 4, "23:50"), ((10, ()), 5, "00:00"), ((60, ()), 5, "00:50")]:
            lines = self.check(sky, zone, [("seasons", "a")], feasts, None, 3, 8)
            year, month, number = date_of("gregorian", day)
            told = [f"DAY {day} {year} {month} {number} {weekday(day)}", f"{minute} season0 a", "FEAST x"]
            self.assertEqual(lines[1:], told)

    def test_errors(self):
        sky = slow_sky()
        wrong_zone = (0, ((5, 0), (5, 1)))
        wrong = [("nodes", "moon"), ("nodes", "pluto"), ("nodes", "ceres"), ("tides", ("x", []))]
        for zone, wishes, kind, told in [
            (wrong_zone, wrong, ZoneError, {"code": "order"}), ((1501, ()), [], ZoneError, {"code": "offset"}),
            (ZONE, wrong, SkyError, {"code": "body", "name": "pluto"}),
            (ZONE, wrong[2:], SkyError, {"code": "body", "name": "ceres"}),
            (ZONE, wrong[3:], SkyError, {"code": "port", "name": "x"}),
        ]:
            self.assertEqual(error_of(kind, book, sky, PLACE, zone, wishes, FEASTS, ERAS, 1, 2), told)
            self.assertEqual(error_of(kind, almanac, sky, PLACE, zone, wishes, 1, 2), told)


LINES = [
    "BOOK -5 300", "ERA old 12", "DAY -1 0 12 30 5", "00:00 rise sun", "00:00 a1 moon sun", "23:59 zz", "FEAST a",
    "FEAST ab", "DAY 0 0 12 31 6", "FEAST b", "DAY 60 1 3 1 3", "07:05 set sun", "DAY 300 1 10 27 5", "FEAST zzzzzzzz",
]
FOUND = [
    (-1, [(0, "rise", ("sun",)), (0, "a1", ("moon", "sun")), (1439, "zz", ())], ["a", "ab"]), (0, [], ["b"]),
    (60, [(425, "set", ("sun",))], []), (300, [], ["zzzzzzzz"]),
]


class Reading(unittest.TestCase):
    def fault(self, lines):
        told = error_of(BookError, read_book, text_of(lines))
        return told if told is None else told["at"]

    def test_a_book(self):
        self.assertEqual(read_book(text_of(LINES)), FOUND)
        # Without an era it is a book, too.
        self.assertEqual(read_book(text_of([LINES[0], *LINES[2:]])), FOUND)

    def test_lines_left_out(self):
        # Without its DAY line a row or a feast belongs to the day before, or to none.
        told = [0, None, 2, None, None, None, None, None, None, 8, 10, 10, None, 12]
        for at, wrong in enumerate(told):
            self.assertEqual(self.fault(LINES[:at] + LINES[at + 1:]), wrong, LINES[at])

    def test_lines_doubled(self):
        # A day that is told twice has nothing behind its first line.
        told = [1, 2, 2, None, None, None, 7, 8, 8, 10, 10, None, 12, 14]
        for at, wrong in enumerate(told):
            self.assertEqual(self.fault(LINES[:at] + [LINES[at]] + LINES[at:]), wrong, LINES[at])

    def test_lines_exchanged(self):
        told = [0, 1, 2, None, 5, 6, 7, None, 9, 8, 10, 10, 13]
        for at, wrong in enumerate(told):
            exchanged = LINES[:at] + [LINES[at + 1], LINES[at]] + LINES[at + 2:]
            self.assertEqual(self.fault(exchanged), wrong, exchanged[at:at + 2])

    def wrong_words(self, line):
        """Another word in the place of each word of a line."""
        words = line.split(" ")
        for place, word in enumerate(words):
            others = ["", "x" + word, word + "\t", "?", word + " ", " " + word, word + " x y", "-0", "01"]
            if place == 0:
                others += [word.lower() if word.isupper() else word.upper(), "TILT", "24:00", "07:60", "7:05", "07:5"]
            elif word.lstrip("-").isdigit():
                others += [str(int(word) + 1), str(int(word) - 1), "9" * 21, "+" + word, word + ".0"]
            else:
                others += [word.upper(), "abcdefghi", "\u00e4", "a_b"]
            for other in [other for other in others if other != word]:
                yield place, other, " ".join(replaced(words, place, other))

    def test_each_word_changed(self):
        for at, line in enumerate(LINES):
            for place, other, wrong in self.wrong_words(line):
                lines = replaced(LINES, at, wrong)
                # A DAY line with nothing right behind it is wrong itself.
                wrong_at = at - 1 if LINES[at - 1].startswith("DAY") else at
                if self.may_be(at, place, other):
                    # The last day is none of a book that ends before it; a feast may stand behind its next one.
                    self.assertIn(self.fault(lines), (None, wrong_at, {0: 12, 6: 7}.get(at)), lines[at])
                else:
                    self.assertEqual(self.fault(lines), wrong_at, lines[at])

    def may_be(self, at, place, other):
        """True for a change that leaves some other right line."""
        if at in (0, 1) and place > 0 and other.lstrip("-").isdigit() and other not in ("-0", "01"):
            return True
        return place > 0 and at in (1, 3, 4, 5, 6, 7, 9, 11, 13) and other.startswith(("x", "zz", "old")) or (
            at in (3, 4, 5, 11) and other.endswith(" x y"))

    def test_the_line_behind_a_day(self):
        # The line behind a DAY line is wrong, so the DAY line is.
        for at, day in [(3, 2), (9, 8), (11, 10), (13, 12)]:
            for wrong in ["", "x", "FEAST", "FEAST A", "FEAST a b", "24:00 rise", "00:00", "00:00 1a", "DAY 61 1 3 2 4",
                          "ERA old 12", "BOOK -5 300", "feast a"]:
                self.assertEqual(self.fault(replaced(LINES, at, wrong)), day, wrong)
        # Any other wrong line is wrong itself.
        for at in (4, 5, 6, 7):
            for wrong in ["", "x", "FEAST", "FEAST A", "24:00 rise", "00:00", "ERA old 12", "BOOK -5 300"]:
                self.assertEqual(self.fault(replaced(LINES, at, wrong)), at, wrong)
        self.assertEqual(self.fault(LINES[:9]), 8)
        self.assertEqual(self.fault(LINES[:3]), 2)

    def test_book_lines(self):
        for first, last, fits in [(-5, 361, True), (-5, 362, False), (-5, 300, True), (-5, 299, False), (-1, 300, True),
                                  (0, 300, False), (301, 300, False), (-5, -6, False)]:
            told = self.fault(replaced(LINES, 0, f"BOOK {first} {last}"))
            self.assertIs(told is None, fits)
        for line, fits in [("BOOK 5 5", True), ("BOOK 5 4", False), ("BOOK 5 371", True), ("BOOK 5 372", False),
                           ("BOOK -4000000 -4000000", True), ("BOOK -4000001 -4000000", False), ("BOOK 5", False),
                           ("BOOK 4000000 4000000", True), ("BOOK 4000000 4000001", False), ("BOOK", False),
                           ("BOOK 5 5 5", False), ("BOOK  5 5", False), ("book 5 5", False), ("BOOK 5 5 ", False),
                           ("BOOK 05 5", False), ("BOOK 5 x", False), ("", False), ("ERA old 12", False),
                           ("DAY 1 1 1 1 0", False), ("BOOK -0 5", False)]:
            self.assertEqual(self.fault([line]), None if fits else 0, line)
        # An index of a day beyond the span, and of the last one within it.
        self.assertEqual(self.fault(replaced(LINES, 0, "BOOK -5 299")), 12)
        self.assertEqual(self.fault(replaced(LINES, 0, "BOOK 0 300")), 2)

    def test_era_lines(self):
        for line, fits in [("ERA a 1", True), ("ERA abcdefgh -5", True), ("ERA a 0", True), ("ERA a " + "9" * 20, True),
                           ("ERA a " + "9" * 21, False), ("ERA abcdefghi 1", False), ("ERA A 1", False), ("ERA a", False),
                           ("ERA a x", False), ("ERA a 01", False), ("ERA  1", False), ("ERA a 1 1", False),
                           ("ERA a1 1", False), ("era a 1", False), ("ERA", False), ("ERA a 1 ", False)]:
            self.assertEqual(self.fault(replaced(LINES, 1, line)), None if fits else 1, line)
        for at in range(2, 15):
            told = self.fault(LINES[:at] + ["ERA old 12"] + LINES[at:])
            self.assertEqual(told, at - 1 if LINES[at - 1].startswith("DAY") else at)
        self.assertEqual(self.fault([LINES[0], LINES[2], LINES[1], *LINES[3:]]), 1)

    def test_day_lines(self):
        for line, fits in [("DAY -1 0 12 30 5", True), ("DAY -1 0 12 30 6", False), ("DAY -1 0 12 31 5", False),
                           ("DAY -1 0 11 30 5", False), ("DAY -1 1 12 30 5", False), ("DAY -2 0 12 29 4", True),
                           ("DAY -5 0 12 26 1", True), ("DAY -6 0 12 25 0", False), ("DAY -1 0 12 30", False),
                           ("DAY -1 0 12 30 5 5", False), ("DAY -01 0 12 30 5", False), ("DAY 0 0 12 31 6", False),
                           ("DAY", False), ("day -1 0 12 30 5", False)]:
            told = self.fault(replaced(LINES, 2, line))
            # Day 0 is right by itself, but then it comes again.
            self.assertEqual(told, None if fits else 8 if line == "DAY 0 0 12 31 6" else 2, line)
        self.assertEqual(self.fault(replaced(LINES, 10, "DAY -1 0 12 30 5")), 10)
        self.assertEqual(self.fault(replaced(LINES, 10, "DAY 0 0 12 31 6")), 10)
        self.assertEqual(self.fault(replaced(LINES, 10, "DAY 1 1 1 1 0")), None)

    def test_rows_and_feasts(self):
        for row, fits in [("23:59 zz", True), ("23:58 zz", False), ("23:59 a", True), ("24:00 zz", False)]:
            self.assertEqual(self.fault(LINES[:6] + [row] + LINES[6:]), None if fits else 6, row)
        # No row behind a feast of its day, whatever its minute.
        self.assertEqual(self.fault(LINES[:7] + ["23:59 zz"] + LINES[7:]), 7)
        self.assertEqual(self.fault(LINES[:8] + ["23:59 zz"] + LINES[8:]), 8)
        # The minutes begin anew with each day.
        self.assertEqual(self.fault(replaced(LINES, 9, "00:00 a")), None)
        for feast, fits in [("FEAST ab", False), ("FEAST aa", False), ("FEAST a", False), ("FEAST abc", True),
                            ("FEAST b", True), ("FEAST zzzzzzzz", True), ("FEAST zzzzzzzzz", False), ("FEAST B", False),
                            ("FEAST b1", False), ("FEAST b b", False), ("FEAST b ", False), ("FEAST", False)]:
            self.assertEqual(self.fault(LINES[:8] + [feast] + LINES[8:]), None if fits else 8, feast)
        # Rows and feasts without a day.
        for line in ("00:00 rise sun", "FEAST a"):
            self.assertEqual(self.fault([LINES[0], line]), 1)
            self.assertEqual(self.fault(LINES[:2] + [line]), 2)

    def test_kinds(self):
        for day, rows, names in read_book(text_of(LINES)):
            self.assertIsInstance(rows, list)
            self.assertIsInstance(names, list)
            self.assertTrue(all(isinstance(row, tuple) and isinstance(row[2], tuple) for row in rows))

    def test_newlines(self):
        for many in range(1, len(LINES) + 1):
            at = many - 1
            # What has no newline is nothing that a DAY line could stand ahead of.
            told = at - 1 if LINES[at - 1].startswith("DAY") else at
            self.assertEqual(error_of(BookError, read_book, text_of(LINES[:many])[:-1]), {"at": told})
        self.assertEqual(error_of(BookError, read_book, ""), {"at": 0})
        self.assertEqual(error_of(BookError, read_book, "\n"), {"at": 0})
        self.assertEqual(self.fault(LINES + [""]), len(LINES))
        self.assertEqual(error_of(BookError, read_book, text_of(LINES) + " "), {"at": len(LINES)})

    def test_there_and_back(self):
        rng = random.Random(74)
        for _ in range(40):
            first = rng.randint(-4000000, 3999600)
            last = first + rng.choice([0, 5, 366])
            lines, told = [f"BOOK {first} {last}"], []
            for day in sorted(rng.sample(range(first, last + 1), min(last - first + 1, 6))):
                minutes = sorted(rng.randint(0, 1439) for _ in range(rng.randint(0, 3)))
                rows = [(minute, rng.choice(["set", "a1"]), ("sun",) * rng.randint(0, 2)) for minute in minutes]
                names = sorted(rng.sample(["a", "b", "xmas"], rng.randint(0 if rows else 1, 3)))
                told.append((day, rows, names))
                lines.append(" ".join(map(str, ["DAY", day, *date_of("gregorian", day), weekday(day)])))
                lines += [" ".join(["%02d:%02d" % divmod(minute, 60), kind, *words]) for minute, kind, words in rows]
                lines += ["FEAST " + name for name in names]
            self.assertEqual(read_book(text_of(lines)), told)


if __name__ == "__main__":
    unittest.main()
