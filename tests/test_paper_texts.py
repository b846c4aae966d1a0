"""Point 62."""

import random
import unittest

from truealmanac.errors import PaperError
from truealmanac.finder import paper
from truealmanac.papers import paper_text, read_paper
from plain import error_of, replaced

LINES = ["PAPER -20 30", "-20 5", "-14 0", "-13 43"]
NO_NUMBERS = ["", "-", "-0", "+1", "01", "00", "-01", "9" * 21, "-" + "9" * 21, "1.0", "1e3", "1_000", "x", "--1",
              "1-", "\u0663", "\u00b2", " 1", "0x1", "1\t", "\u22121", "None", "1\r"]


def text_of(lines):
    return "".join(line + "\n" for line in lines)


class Texts(unittest.TestCase):
    def test_text(self):
        self.assertEqual(paper_text(-20, 30, [(-20, 5), (-14, 0), (-13, 43)]), text_of(LINES))
        self.assertEqual(paper_text(0, 0, []), "PAPER 0 0\n")
        self.assertEqual(paper_text(5, 5, [(5, 0)]), "PAPER 5 5\n5 0\n")

    def test_there_and_back(self):
        self.assertEqual(read_paper(text_of(LINES)), (-20, 30, [(-20, 5), (-14, 0), (-13, 43)]))
        rng = random.Random(62)
        for many in [0, 1, 1, 2, 5, 300]:
            n = 10 ** rng.randint(1, 20) - 1
            cells = [(rng.randint(-n, n), rng.randint(-n, n)) for _ in range(many)]
            start, end = rng.randint(-n, n), rng.randint(-n, n)
            self.assertEqual(read_paper(paper_text(start, end, cells)), (start, end, cells))
        cells = paper(("wave", ("turning", 0, 1296000, 97)), -500, 500)
        self.assertEqual(read_paper(paper_text(-500, 500, cells)), (-500, 500, cells))

    def test_kinds(self):
        start, end, cells = read_paper(text_of(LINES))
        self.assertIsInstance(cells, list)
        self.assertTrue(all(isinstance(cell, tuple) for cell in cells))
        self.assertEqual(read_paper("PAPER 7 3\n"), (7, 3, []))

    def test_it_need_not_be_a_paper(self):
        self.assertEqual(read_paper("PAPER 9 -9\n5 -5\n5 -5\n0 0\n"), (9, -9, [(5, -5), (5, -5), (0, 0)]))


class WrongTexts(unittest.TestCase):
    def fault(self, lines):
        told = error_of(PaperError, read_paper, text_of(lines))
        return told if told is None else told["at"]

    def test_numbers(self):
        for n in [0, 1, -1, 10, -10, 10 ** 19 - 1, 10 ** 20 - 1, 1 - 10 ** 20]:
            self.assertEqual(read_paper(f"PAPER {n} 1\n1 {n}\n"), (n, 1, [(1, n)]))
            self.assertEqual(read_paper(f"PAPER 1 {n}\n{n} 1\n"), (1, n, [(n, 1)]))
        for word in NO_NUMBERS:
            for at, line in enumerate(LINES):
                for place in (-1, -2):
                    words = line.split(" ")
                    words[place] = word
                    self.assertEqual(self.fault(replaced(LINES, at, " ".join(words))), at, words)

    def test_numbers_of_words(self):
        for at, line in enumerate(LINES):
            for wrong in [line + " 1", line + " ", " " + line, line.replace(" ", "  ", 1), line.rsplit(" ", 1)[0],
                          line.split(" ")[0], "", " ", "X" + line, line.replace(" ", "\t")]:
                self.assertEqual(self.fault(replaced(LINES, at, wrong)), at, repr(wrong))

    def test_the_word_paper(self):
        self.assertEqual(self.fault(LINES[1:]), 0)
        for wrong in ["paper -20 30", "PAPERS -20 30", "-20 30", "PAPE -20 30", "TABLE -20 30"]:
            self.assertEqual(self.fault([wrong, *LINES[1:]]), 0)
        for at in range(1, 5):
            self.assertEqual(self.fault(LINES[:at] + [LINES[0]] + LINES[at:]), at)
        self.assertEqual(self.fault(replaced(LINES, 2, "PAPER 5")), 2)
        self.assertEqual(self.fault(replaced(LINES, 0, "PAPER")), 0)

    def test_the_first_wrong_line(self):
        self.assertEqual(self.fault(replaced(replaced(LINES, 1, "x 1"), 3, "")), 1)
        self.assertEqual(self.fault(replaced(replaced(LINES, 3, "x 1"), 0, "")), 0)

    def test_no_lines(self):
        self.assertEqual(error_of(PaperError, read_paper, ""), {"at": 0})
        self.assertEqual(error_of(PaperError, read_paper, "\n"), {"at": 0})
        self.assertEqual(error_of(PaperError, read_paper, "x"), {"at": 0})

    def test_the_last_newline(self):
        for many in range(1, 5):
            self.assertEqual(error_of(PaperError, read_paper, text_of(LINES[:many])[:-1]), {"at": many - 1})
        self.assertEqual(error_of(PaperError, read_paper, text_of(LINES) + "\n"), {"at": 4})
        self.assertEqual(error_of(PaperError, read_paper, text_of(LINES) + "\n\n"), {"at": 4})
        self.assertEqual(error_of(PaperError, read_paper, text_of(LINES) + " "), {"at": 4})


if __name__ == "__main__":
    unittest.main()
