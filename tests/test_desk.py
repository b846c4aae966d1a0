"""Points 43 and 44."""

import random
import unittest

from truealmanac.almanac import almanac, next_event
from truealmanac.calendars import date_of, day_of, weekday
from truealmanac.desk import Desk
from truealmanac.errors import SkyError
from truealmanac.pages import page_text
from plain import (
    altitude_as_told, error_of, latitude_as_told, longitude_as_told, plain_value, replaced,
)
import samples

PORT_WORDS = "2000 9 648000 373 -700 5 432000 127 300 0 -129600 11"
RIGHT_LINES = [
    "PLACE 180000 40000", "OFFSET 60", "PORT brest 2000 9 648000 373", "PORT kiel " + PORT_WORDS,
    "WISH risings moon -3000", "WISH seasons sun", "WISH phases moon sun", "WISH meetings mars moon", "WISH nodes moon",
    "WISH eclipses moon sun 9000 6000", "WISH tides told", "FORGET", "DATE gregorian 5", "DATE julian -5",
    "DAY julian 2000 2 29", "WEEKDAY 5", "NEXT 100 5000", "PAGE 3 4", "VALUE mars 77",
]
# Each line with the index of a number in it, and the bounds of that number.
BOUNDS = [
    ("PLACE 0 0", 1, -324000, 324000), ("PLACE 0 0", 2, -648000, 648000), ("OFFSET 0", 1, -1500, 1500),
    ("WISH risings moon 0", 3, -324000, 324000), ("WISH eclipses moon sun 0 0", 4, 0, 10 ** 9),
    ("WISH eclipses moon sun 0 0", 5, 0, 10 ** 9), ("DATE julian 0", 2, -4000000, 4000000),
    ("WEEKDAY 0", 1, -4000000, 4000000), ("NEXT 0 5", 1, -10 ** 9, 10 ** 9), ("NEXT 0 5", 2, 1, 600000),
    ("PAGE 0 0", 2, 0, 366), ("PAGE -4000000 -4000000", 2, -4000000, -3999634),
    ("PAGE 3999900 4000000", 2, 3999900, 4000000),
    ("VALUE mars 0", 2, -10 ** 9, 10 ** 9), ("PORT a 0 0 0 1", 2, -10 ** 5, 10 ** 5),
    ("PORT a 0 0 0 1", 3, -10 ** 12, 10 ** 12), ("PORT a 0 0 0 1", 4, -10 ** 6, 10 ** 6),
    ("PORT a 0 0 0 1", 5, 1, 10 ** 6),
    ("PORT a 1 2 3 4 0 0 0 1", 6, -10 ** 5, 10 ** 5), ("PORT a 1 2 3 4 0 0 0 1", 9, 1, 10 ** 6),
]


def new_desk():
    desk = Desk(samples.sky())
    desk.answer("PORT told " + PORT_WORDS)
    return desk


class Answers(unittest.TestCase):
    def setUp(self):
        self.desk = new_desk()

    def test_commands_that_change(self):
        for line in RIGHT_LINES[:12]:
            self.assertEqual(self.desk.answer(line), "OK", line)

    def test_dates(self):
        for calendar in ("gregorian", "julian"):
            for day in (-4000000, -367, 0, 1, 739000, 4000000):
                told = "{} {} {}".format(*date_of(calendar, day))
                self.assertEqual(self.desk.answer(f"DATE {calendar} {day}"), told)
        self.assertEqual(self.desk.answer("DATE gregorian -1"), "0 12 30")
        self.assertEqual(self.desk.answer("DATE julian -1"), "1 1 1")

    def test_days(self):
        for calendar in ("gregorian", "julian"):
            for date in [(1, 1, 1), (-10000, 1, 1), (10000, 12, 31), (2000, 2, 29)]:
                words = " ".join(map(str, date))
                self.assertEqual(self.desk.answer(f"DAY {calendar} {words}"), str(day_of(calendar, date)))
        for words, told in [
            ("gregorian 10001 1 1", "NO year"), ("julian -10001 1 1", "NO year"), ("julian 2000 13 1", "NO month"),
            ("julian 2000 0 1", "NO month"), ("gregorian 1900 2 29", "NO day"), ("gregorian 1900 2 0", "NO day"),
            ("gregorian " + "9" * 20 + " 13 99", "NO year"), ("gregorian 5 -" + "9" * 20 + " 99", "NO month"),
            ("gregorian 5 5 " + "9" * 20, "NO day"), ("gregorian 5 5 " + "9" * 21, "NO 4"),
            ("gregorian 5 13 x", "NO 4"),
            ("gregorian 20000 13", "NO 4"), ("cycle 5 5 5", "NO 1"), ("Julian 5 5 5", "NO 1"),
        ]:
            self.assertEqual(self.desk.answer("DAY " + words), told, words)

    def test_weekdays(self):
        for day in (-4000000, 0, 1, 2, 739000):
            self.assertEqual(self.desk.answer(f"WEEKDAY {day}"), str(weekday(day)))

    def test_values(self):
        sky = samples.sky()
        for place in samples.PLACES:
            self.desk.answer("PLACE {} {}".format(*place))
            for body in sky["bodies"]:
                for tick in (-10 ** 9, -5, 0, 77, 10 ** 9):
                    told = (plain_value(longitude_as_told(sky, body), tick) % 1296000,
                            plain_value(latitude_as_told(sky, body), tick),
                            plain_value(altitude_as_told(sky, place, body), tick))
                    self.assertEqual(self.desk.answer(f"VALUE {body} {tick}"), "{} {} {}".format(*told))

    def test_the_zone_at_the_beginning(self):
        wishes = self.wishes()
        told = page_text("gregorian", almanac(samples.sky(), (0, 0), (0, ()), wishes, 2, 2))
        self.assertEqual(self.desk.answer("PAGE 2 2"), told)

    def test_the_place_at_the_beginning(self):
        sky = samples.sky()
        told = str(plain_value(altitude_as_told(sky, (0, 0), "moon"), 5))
        self.assertEqual(Desk(sky).answer("VALUE moon 5").split(" ")[2], told)

    def wishes(self):
        wishes = [("risings", "moon", -3000), ("eclipses", "moon", "sun", 9000, 6000), ("meetings", "mars", "moon")]
        for wish in wishes:
            self.assertEqual(self.desk.answer("WISH " + " ".join(map(str, wish))), "OK")
        self.assertEqual(self.desk.answer("WISH tides told"), "OK")
        return [*wishes, ("tides", ("told", samples.port()[1]))]

    def test_next(self):
        self.assertEqual(self.desk.answer("NEXT 0 600000"), "NONE")
        wishes = self.wishes()
        place = (180000, 40000)
        self.desk.answer("PLACE 180000 40000")
        rng = random.Random(43)
        kinds = set()
        for _ in range(60):
            tick, limit = rng.randint(-5000, 5000), rng.choice([1, 9, 40, 600000])
            events = [next_event(samples.sky(), place, wish, tick, limit) for wish in wishes]
            told = min([event for event in events if event is not None], default=None)
            words = "NONE" if told is None else " ".join([str(told[0]), told[1], *told[2]])
            self.assertEqual(self.desk.answer(f"NEXT {tick} {limit}"), words)
            kinds.add(told[1] if told else None)
        self.assertTrue({None, "rise", "meet", "high"} <= kinds, kinds)

    def test_next_of_equal_ticks(self):
        star = {"motion": (0, 0, 1), "terms": [], "latitude": [(10 ** 6, -500, 1, 1)]}
        for order in ("ab", "ba"):
            desk = Desk({"bodies": {"a": star, "b": star}, "tilt": 0, "turning": (0, 0, 1)})
            for name in order:
                desk.answer("WISH nodes " + name)
            self.assertEqual(desk.answer("NEXT 0 500"), "500 north a")
            self.assertEqual(desk.answer("NEXT 0 499"), "NONE")

    def test_pages(self):
        self.assertEqual(self.desk.answer("PAGE 0 1"), "DAY 0 0 12 31\nDAY 1 1 1 1\n")
        wishes = self.wishes()
        self.desk.answer("PLACE 180000 40000")
        for offset in (0, 1500, -721):
            self.desk.answer(f"OFFSET {offset}")
            entries = almanac(samples.sky(), (180000, 40000), (offset, ()), wishes, -2, 3)
            self.assertTrue(all(rows for _, rows in entries))
            self.assertEqual(self.desk.answer("PAGE -2 3"), page_text("gregorian", entries))

    def test_forget(self):
        self.wishes()
        self.assertEqual(self.desk.answer("FORGET"), "OK")
        self.assertEqual(self.desk.answer("NEXT 0 600000"), "NONE")
        # Ports stay.
        self.assertEqual(self.desk.answer("PORT told 1 2 3 4"), "NO 1")
        self.assertEqual(self.desk.answer("WISH tides told"), "OK")


class WrongLines(unittest.TestCase):
    def no(self, line, at, desk=None):
        """That the answer is NO and the index, and that nothing changes."""
        desk = desk or self.desk
        before = desk.log()
        self.assertEqual(desk.answer(line), f"NO {at}", repr(line))
        self.assertEqual(desk.log(), before)

    def setUp(self):
        self.desk = new_desk()

    def test_commands(self):
        for line in ["", " ", "x", "place 1 2", "Place 1 2", " PLACE 1 2", "PLACES", "NO", "OK", "FORGET\n", "TIDES",
                     "5"]:
            self.no(line, 0)

    def test_too_few_and_too_many_words(self):
        for line in RIGHT_LINES:
            words = line.split(" ")
            if words[0] != "PORT":
                for many in range(1, len(words)):
                    self.no(" ".join(words[:many]), many)
                self.no(line + " 1", len(words))
            self.no(line + " ", len(words))
            if len(words) > 1:
                self.no(line.replace(" ", "  ", 1), 1)

    def test_ports_with_too_few_and_too_many_words(self):
        for many in range(1, 5):
            self.no(" ".join(["PORT", "a", "1", "2", "3"][:many]), many)
        for terms in range(1, 21):
            line = "PORT a" + " 1 2 3 4" * terms
            for more in range(1, 4 if terms < 20 else 1):
                self.no(line + " 5" * more, 2 + 4 * terms + more)
            self.assertEqual(new_desk().answer(line), "OK")
        line = "PORT a" + " 1 2 3 4" * 20
        for more in range(1, 9):
            self.no(line + " 5" * more, 82)

    def test_each_word_wrong(self):
        for line in RIGHT_LINES:
            words = line.split(" ")
            for at in range(len(words)):
                for wrong in ["", "X", "0x", "-", "-0", "+1", "01", "venus2", "1" * 21, "\u0663", "1\n"]:
                    self.no(" ".join(replaced(words, at, wrong)), at)
                    # The first wrong word is told, also if there are too many or too few.
                    self.no(" ".join(replaced(words, at, wrong)) + " 1 2", at)
                    self.no(" ".join(replaced(words, at, wrong)[:at + 1]), at)

    def test_bounds_of_numbers(self):
        for line, at, low, high in BOUNDS:
            for n, fits in [(low, True), (high, True), (low - 1, False), (high + 1, False)]:
                words = " ".join(replaced(line.split(" "), at, str(n)))
                if fits:
                    self.assertNotEqual(new_desk().answer(words)[:3], "NO ", words)
                else:
                    self.no(words, at)

    def test_pages(self):
        self.no("PAGE 4000001 4000001", 1)
        self.no("PAGE -4000001 -4000000", 1)
        self.no("PAGE 4000000 4000001", 2)
        self.no("PAGE 5 4", 2)
        self.no("PAGE 5 372", 2)

    def test_wishes(self):
        for kind in ("", "rising", "Risings", "young", "meridian", "contacts"):
            self.no("WISH " + kind, 1)
            self.no("WISH " + kind + " moon sun", 1)
        for kind, more in [("phases", ""), ("meetings", ""), ("eclipses", " 5 5")]:
            self.no(f"WISH {kind} moon moon{more}", 3)
            self.no(f"WISH {kind} moon venus{more}", 3)
            self.no(f"WISH {kind} venus venus{more}", 2)
            self.no(f"WISH {kind} moon Sun{more}", 3)
        self.no("WISH tides brest", 2)
        self.no("WISH tides moon", 2)
        self.no("WISH seasons told", 2)
        self.no("VALUE told 5", 1)

    def test_ports(self):
        self.no("PORT told 1 2 3 4", 1)
        self.no("PORT told", 1)
        for name in ("", "abcdefghi", "Kiel", "k1", "\u00e4"):
            self.no(f"PORT {name} 1 2 3 4", 1)
        # A wrong line tells no port.
        self.no("PORT kiel 1 2 3", 5)
        self.no("WISH tides kiel", 2)
        self.assertEqual(self.desk.answer("PORT kiel 1 2 3 4"), "OK")
        self.no("PORT kiel 1 2 3 4", 1)
        # Bodies and ports may have the same name.
        self.assertEqual(self.desk.answer("PORT moon 1 2 3 4"), "OK")

    def test_twelve_wishes(self):
        for _ in range(12):
            self.assertEqual(self.desk.answer("WISH seasons sun"), "OK")
        for line in ["WISH seasons sun", "WISH", "WISH x", "WISH seasons venus", "WISH seasons sun sun"]:
            self.no(line, 0)
        self.assertEqual(self.desk.answer("PLACE 1 2"), "OK")
        self.desk.answer("FORGET")
        self.assertEqual(self.desk.answer("WISH seasons sun"), "OK")

    def test_wrong_lines_change_nothing(self):
        asked = ["NEXT 0 600000", "PAGE 0 1", "VALUE moon 5"]
        for line in RIGHT_LINES[:11]:
            self.desk.answer(line)
        before = [self.desk.answer(line) for line in asked]
        for line in ["PLACE 0 648001", "OFFSET 1501", "FORGET 1", "WISH seasons venus", "OFFSET 0 0", "PLACE 0"]:
            self.assertEqual(self.desk.answer(line)[:2], "NO")
        self.assertEqual([self.desk.answer(line) for line in asked], before)


class Logs(unittest.TestCase):
    def test_lines_that_change(self):
        desk = Desk(samples.sky())
        self.assertEqual(desk.log(), [])
        lines = [line for line in RIGHT_LINES if line != "WISH tides told"]
        for line in lines:
            desk.answer(line)
            desk.answer(line + " ")
            desk.answer("")
        self.assertEqual(desk.log(), lines[:11])

    def test_a_new_desk_with_the_log(self):
        rng = random.Random(44)
        for _ in range(20):
            desk = Desk(samples.sky())
            for line in rng.choices(RIGHT_LINES[:12] + ["PORT told " + PORT_WORDS, "PLACE x", "OFFSET 1501"], k=20):
                desk.answer(line)
            other = Desk(samples.sky())
            self.assertEqual({other.answer(line) for line in desk.log()} | {"OK"}, {"OK"})
            self.assertEqual(other.log(), desk.log())
            for line in ["NEXT 0 600000", "PAGE 0 0", "VALUE moon 5", "PORT kiel 1 2 3 4", "WISH tides told", "WISH"]:
                self.assertEqual(other.answer(line), desk.answer(line))

    def test_the_log_is_given_as_a_copy(self):
        desk = new_desk()
        desk.log().clear()
        self.assertEqual(len(desk.log()), 1)

    def test_the_sky_is_not_kept(self):
        sky = samples.sky()
        desk = Desk(sky)
        asked = ["VALUE moon 5", "VALUE sun 5", "DATE julian 5"]
        before = [desk.answer(line) for line in asked]
        self.assertEqual(sky, samples.sky())
        sky["bodies"]["moon"]["terms"].clear()
        sky["bodies"]["moon"]["latitude"].append((10 ** 9, 5, 5, 5))
        sky["bodies"]["sun"]["motion"] = (0, 0, 1)
        sky["turning"] = (0, 0, 1)
        sky["tilt"] = 0
        del sky["bodies"]["mars"]
        self.assertEqual([desk.answer(line) for line in asked], before)
        self.assertNotEqual(desk.answer("VALUE mars 5"), "NO 1")

    def test_skies_that_are_not_right(self):
        sky = samples.sky() | {"tilt": -1}
        self.assertEqual(error_of(SkyError, Desk, sky), {"code": "tilt", "name": ""})
        self.assertEqual(error_of(SkyError, Desk, sky | {"bodies": {}}), {"code": "size", "name": ""})


if __name__ == "__main__":
    unittest.main()
