"""Points 55 and 56."""

import random
import re
import unittest

from truealmanac.errors import PatternError
from truealmanac.numerals import arc_text, read_arc, read_roman, roman
from plain import error_of

WHOLE = re.compile("-?(0|[1-9][0-9]{0,8}):[0-5][0-9]:[0-5][0-9]")
# What an arc text begins with; -0:00:00 fits too.
BEGUN = re.compile("-?((0|[1-9][0-9]{0,8})(:([0-5][0-9]?)?|:[0-5][0-9]:([0-5][0-9]?)?)?)?")


def arc_fault(text):
    """The index of the error of point 55, as its words say, or None."""
    for at in range(len(text)):
        begun = text[:at + 1]
        if not BEGUN.fullmatch(begun) or begun == "-0:00:00":
            return at
    return None if WHOLE.fullmatch(text) else len(text)


class Arcs(unittest.TestCase):
    def fault(self, text):
        told = error_of(PatternError, read_arc, text)
        return told if told is None else told["at"]

    def test_texts(self):
        for angle, text in [
            (-43509, "-12:05:09"), (0, "0:00:00"), (-1, "-0:00:01"), (59, "0:00:59"), (60, "0:01:00"),
            (3599, "0:59:59"),
            (3600, "1:00:00"), (-3599, "-0:59:59"), (-3600, "-1:00:00"), (1296000, "360:00:00"), (-60, "-0:01:00"),
            (3600 * 10 ** 9 - 1, "999999999:59:59"), (1 - 3600 * 10 ** 9, "-999999999:59:59"),
        ]:
            self.assertEqual(arc_text(angle), text)
            self.assertEqual(read_arc(text), angle)

    def test_there_and_back(self):
        rng = random.Random(55)
        for _ in range(500):
            n = 10 ** rng.randint(1, 12)
            angle = rng.randint(-n, n)
            self.assertEqual(read_arc(arc_text(angle)), angle)

    def test_known_faults(self):
        for text, at in [
            ("", 0), ("-", 1), ("--1:00:00", 1), ("+1:00:00", 0), (":00:00", 0), ("-:00:00", 1), ("x", 0),
            ("01:00:00", 1), ("00:00:00", 1), ("-01:00:00", 2), ("1", 1), ("1:", 2), ("1:0", 3), ("1:00", 4),
            ("1:00:", 5), ("1:00:0", 6),
            ("1:00:00", None), ("1:00:000", 7), ("1:00:00:", 7), ("1:60:00", 2), ("1:00:60", 5), ("1:0:00", 3),
            ("1:00:0x", 6), ("1:000:00", 4), ("1::00", 2), ("1 :00:00", 1), ("-0:00:00", 7), ("-0:00:000", 7),
            ("-0:00:0", 7), ("-0:00:01", None), ("123456789:00:00", None), ("1234567890:00:00", 9),
            ("-1234567890:00:00", 10), ("-123456789:00:00", None), ("1234567890", 9), ("1:00:00\n", 7),
            ("\u0661:00:00", 0), ("1:0\u0662:00", 3), ("1.5", 1), ("0x1:00:00", 1),
        ]:
            self.assertEqual(self.fault(text), at, repr(text))
            self.assertEqual(arc_fault(text), at, repr(text))

    def test_each_place_made_wrong(self):
        rng = random.Random(56)
        for _ in range(60):
            n = 10 ** rng.randint(1, 12)
            text = arc_text(rng.choice([0, 1, -1, 59, -59, 3600, rng.randint(-n, n)]))
            for at in range(len(text) + 1):
                for wrong in ["", "0", "5", "6", "9", ":", "-", "a", " ", "::", "00"]:
                    for other in (text[:at] + wrong + text[at + 1:], text[:at] + wrong + text[at:], text[:at] + wrong):
                        self.assertEqual(self.fault(other), arc_fault(other), other)


class Romans(unittest.TestCase):
    def test_all_numbers(self):
        texts = [roman(n) for n in range(1, 4000)]
        self.assertEqual([read_roman(text) for text in texts], list(range(1, 4000)))
        digits = [
            ["", "I", "II", "III", "IV", "V", "VI", "VII", "VIII", "IX"],
            ["", "X", "XX", "XXX", "XL", "L", "LX", "LXX", "LXXX", "XC"],
            ["", "C", "CC", "CCC", "CD", "D", "DC", "DCC", "DCCC", "CM"],
            ["", "M", "MM", "MMM"],
        ]
        for n in range(1, 4000):
            told = digits[3][n // 1000] + digits[2][n // 100 % 10] + digits[1][n // 10 % 10] + digits[0][n % 10]
            self.assertEqual(texts[n - 1], told)

    def test_texts_that_are_none(self):
        for text in ["IIII", "VX", "IC", "", "i", "iv", "Iv", "MMMM", "MMMCMXCIXI", "VV", "LL", "DD", "IXI", "XCX",
                     "CMM", "IVI", "IIV", "IIX", "XXC", "IL", "XD", "XM", "VL", "LC", "DM", "CMCM", "CMD", "CDC", "IXV",
                     "A", "X ", " X", "XA", "AX", "10", "X\n", "\u2169", "M" * 5000, "XIIII", "MCMC", "0", "-X"]:
            self.assertEqual(error_of(PatternError, read_roman, text), {"at": 0}, text[:20])

    def test_all_short_texts(self):
        right = {roman(n) for n in range(1, 4000)}
        texts = [""]
        for _ in range(5):
            texts = [text + letter for text in texts for letter in "MDCLXVI"]
            for text in texts:
                self.assertEqual(error_of(PatternError, read_roman, text), None if text in right else {"at": 0})


if __name__ == "__main__":
    unittest.main()
