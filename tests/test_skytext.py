"""Point 42."""

import random
import unittest

from truealmanac.errors import SkyTextError
from truealmanac.skytext import read_sky, sky_text
from plain import error_of, replaced
import samples

LINES = [
    "TILT 84381", "TURNING 77 -1296000 151", "BODY mars 1 2 3", "TERM 4 5 6 7", "TERM 8 9 10 11",
    "LATITUDE 12 13 14 15", "LATITUDE -1 -2 -3 4", "BODY moon 0 0 1", "LATITUDE 1 0 0 1", "BODY sun 5 0 1",
]
SKY = {
    "bodies": {
        "mars": {"motion": (1, 2, 3), "terms": [(4, 5, 6, 7), (8, 9, 10, 11)],
                 "latitude": [(12, 13, 14, 15), (-1, -2, -3, 4)]},
        "moon": {"motion": (0, 0, 1), "terms": [], "latitude": [(1, 0, 0, 1)]},
        "sun": {"motion": (5, 0, 1), "terms": [], "latitude": []},
    },
    "tilt": 84381,
    "turning": (77, -1296000, 151),
}


def text_of(lines):
    return "".join(line + "\n" for line in lines)


class Texts(unittest.TestCase):
    def test_text(self):
        self.assertEqual(sky_text(SKY), text_of(LINES))
        # The bodies stand in the order of their names, not in that of the dict.
        turned = SKY | {"bodies": {name: SKY["bodies"][name] for name in ("sun", "mars", "moon")}}
        self.assertEqual(sky_text(turned), text_of(LINES))

    def test_there_and_back(self):
        self.assertEqual(read_sky(text_of(LINES)), SKY)
        self.assertEqual(read_sky(sky_text(samples.sky())), samples.sky())
        rng = random.Random(42)
        for _ in range(30):
            n = 10 ** rng.randint(1, 20) - 1
            motion = (rng.randint(-n, n), rng.randint(-n, n), rng.randint(1, n))
            terms = [(rng.randint(-n, n), 0, -1, 1) for _ in range(rng.randint(0, 25))]
            body = {"motion": motion, "terms": terms, "latitude": terms[::-1]}
            sky = {"bodies": {name: body for name in rng.sample("abcdefghijk", 10)}, "tilt": -n, "turning": motion}
            self.assertEqual(read_sky(sky_text(sky)), sky)

    def test_a_sky_that_is_not_right(self):
        sky = read_sky("TILT -1\nTURNING 0 0 0\nBODY a 0 0 -5\nTERM 99999999999999999999 0 0 0\n")
        self.assertEqual(sky, {"bodies": {"a": {"motion": (0, 0, -5), "terms": [(10 ** 20 - 1, 0, 0, 0)],
                                                "latitude": []}}, "tilt": -1, "turning": (0, 0, 0)})


class WrongTexts(unittest.TestCase):
    def fault(self, lines):
        told = error_of(SkyTextError, read_sky, text_of(lines))
        return told if told is None else told["at"]

    def test_numbers(self):
        for word in ["0", "1", "-1", "10", "-10", "9" * 19, "9" * 20, "-" + "9" * 20, "-" + "1" * 20]:
            self.assertEqual(read_sky(text_of(replaced(LINES, 0, "TILT " + word)))["tilt"], int(word))
        for word in ["", "-", "-0", "+1", "01", "00", "-01", "9" * 21, "-" + "9" * 21, "1.0", "1e3", "1_000", "x",
                     "--1", "1-", "\u0663", "\u00b2", " 1", "0x1", "1\t", "\u22121", "None"]:
            for at, line in enumerate(LINES):
                for place in range(2 if line.startswith("BODY") else 1, len(line.split(" "))):
                    words = " ".join(replaced(line.split(" "), place, word))
                    self.assertEqual(self.fault(replaced(LINES, at, words)), at, words)

    def test_numbers_of_words(self):
        for at, line in enumerate(LINES):
            for wrong in [line + " 1", line + " ", " " + line, line.replace(" ", "  ", 1), line.rsplit(" ", 1)[0],
                          line.split(" ")[0], "", line.lower(), "X" + line[1:]]:
                self.assertEqual(self.fault(replaced(LINES, at, wrong)), at, repr(wrong))

    def test_lines_left_out(self):
        # The next line is wrong then, but terms and the last body are free to be left out.
        told = [0, 1, 2, None, None, None, None, None, None, None]
        for at, wrong in enumerate(told):
            self.assertEqual(self.fault(LINES[:at] + LINES[at + 1:]), wrong, at)

    def test_lines_doubled(self):
        told = [1, 2, 3, None, None, None, None, 8, None, 10]
        for at, wrong in enumerate(told):
            self.assertEqual(self.fault(LINES[:at] + [LINES[at]] + LINES[at:]), wrong, at)

    def test_lines_exchanged(self):
        told = [0, 1, 2, None, 5, None, None, None, None]
        for at, wrong in enumerate(told):
            self.assertEqual(self.fault(LINES[:at] + [LINES[at + 1], LINES[at]] + LINES[at + 2:]), wrong, at)
        self.assertEqual(self.fault(LINES[:2] + [LINES[9], *LINES[7:9]]), 3)

    def test_terms(self):
        self.assertEqual(self.fault(LINES[:2] + ["TERM 1 2 3 4"] + LINES[2:]), 2)
        self.assertEqual(self.fault(LINES[:2] + ["LATITUDE 1 2 3 4"] + LINES[2:]), 2)
        self.assertEqual(self.fault(LINES[:6] + ["TERM 1 2 3 4"]), 6)
        self.assertEqual(self.fault(LINES[:8] + ["TERM 1 2 3 4"]), None)
        self.assertEqual(self.fault(LINES + ["TILT 5"]), len(LINES))
        self.assertEqual(self.fault(LINES + ["TURNING 1 2 3"]), len(LINES))

    def test_names(self):
        # Line 9 stands behind the body moon.
        for name, fits in [("n", True), ("sun", True), ("moona", True), ("zzzzzzzz", True), ("moon", False),
                           ("mars", False), ("a", False), ("abcdefghi", False), ("zzzzzzzzz", False), ("", False),
                           ("O", False), ("o1", False), ("o-", False), ("\u00f6", False), ("1", False)]:
            self.assertEqual(self.fault(replaced(LINES, 9, f"BODY {name} 1 2 3")), None if fits else 9, name)

    def test_what_is_missing(self):
        self.assertEqual(self.fault([]), 0)
        self.assertEqual(self.fault(LINES[:1]), 1)
        self.assertEqual(self.fault(LINES[:2]), 2)
        self.assertEqual(self.fault(LINES[:3]), None)
        self.assertEqual(self.fault(LINES[1:2]), 0)
        self.assertEqual(self.fault(LINES[2:]), 0)

    def test_the_last_newline(self):
        for many in range(1, len(LINES) + 1):
            told = error_of(SkyTextError, read_sky, text_of(LINES[:many])[:-1])
            self.assertEqual(told, {"at": many - 1})
        self.assertEqual(error_of(SkyTextError, read_sky, text_of(LINES) + "\n"), {"at": len(LINES)})
        self.assertEqual(error_of(SkyTextError, read_sky, text_of(LINES[:2]) + "BODY"), {"at": 2})


if __name__ == "__main__":
    unittest.main()
