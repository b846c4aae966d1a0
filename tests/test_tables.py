"""Points 48 and 49."""

import random
import unittest

from truealmanac.errors import TableError
from truealmanac.reaches import reach
from truealmanac.tables import between, read_table, remainder, table_of, table_text
from plain import error_of, plain_reach, plain_value, random_quantity

HILL = ("wave", ("turning", 0, 1296000, 97))
RANGE = {"code": "range"}
TEXT = {"code": "text"}


class Tables(unittest.TestCase):
    def test_values(self):
        self.assertEqual(table_of(("number", 7), -5, 3, 4), (-5, 3, (7, 7, 7, 7)))
        told = tuple(plain_value(HILL, -50 + 9 * k) for k in range(30))
        self.assertEqual(table_of(HILL, -50, 9, 30), (-50, 9, told))
        self.assertEqual(table_of(HILL, 3, 1, 1), (3, 1, (plain_value(HILL, 3),)))
        self.assertEqual(len(table_of(HILL, 0, 60, 10000)[2]), 10000)

    def test_between(self):
        table = (10, 4, (0, 10, -7))
        told = [0, 2, 5, 7, 10, 5, 1, -3, -7]
        self.assertEqual([between(table, t) for t in range(10, 19)], told)
        self.assertEqual(between((0, 3, (-1, -2)), 1), -2)

    def test_out_of_the_table(self):
        for table, last in [((10, 4, (0, 10, -7)), 18), ((10, 4, (5,)), 10), ((10, 1, (5, 6)), 11)]:
            for t in (9, last + 1, -10 ** 9):
                self.assertEqual(error_of(TableError, between, table, t), RANGE)
            self.assertIsNone(error_of(TableError, between, table, last))
            self.assertIsNone(error_of(TableError, between, table, 10))
        self.assertEqual(between((10, 4, (5,)), 10), 5)

    def test_against_the_words(self):
        rng = random.Random(48)
        for _ in range(40):
            step = rng.randint(1, 12)
            values = tuple(rng.randint(-1000, 1000) for _ in range(rng.randint(1, 8)))
            start = rng.randint(-50, 50)
            for t in range(start, start + step * (len(values) - 1) + 1):
                i = (t - start) // step
                r = t - start - i * step
                told = values[i] if r == 0 else (values[i] * (step - r) + values[i + 1] * r) // step
                self.assertEqual(between((start, step, values), t), told)

    def test_remainder(self):
        rng = random.Random(49)
        for _ in range(60):
            q = random_quantity(rng, rng.randint(1, 5))
            step = rng.randint(1, 30)
            most = remainder(q, step)
            self.assertEqual(most, plain_reach(q, step - 1))
            self.assertEqual(most, reach(q, step - 1))
            table = table_of(q, -40, step, 5)
            for t in range(-40, -40 + 4 * step + 1):
                self.assertLessEqual(abs(between(table, t) - plain_value(q, t)), most)
        self.assertEqual(remainder(HILL, 1), 0)


class Texts(unittest.TestCase):
    def test_text(self):
        self.assertEqual(table_text((-5, 3, (7, -8, 0))), "TABLE -5 3\n7\n-8\n0\n")
        for table in [(0, 1, (0,)), table_of(HILL, -50, 9, 30), (-10 ** 9, 600000, (10 ** 19, -10 ** 19))]:
            self.assertEqual(read_table(table_text(table)), table)

    def test_texts_that_are_none(self):
        for text in [
            "", "\n", "TABLE -5 3\n", "TABLE -5 3\n7", "TABLE -5 3", "TABLE -5 3\n7\n8", "7\n", "TABLE -5\n7\n",
            "TABLE -5 3 1\n7\n", "TABLE -5 0\n7\n", "TABLE -5 -1\n7\n", "table -5 3\n7\n", "TABLE  -5 3\n7\n",
            "TABLE -5 3 \n7\n", "TABLE -5 3\n7 8\n", "TABLE -5 3\n7\n\n", "TABLE -5 3\n\n7\n", "TABLE -5 3\n07\n",
            "TABLE -5 3\n-0\n", "TABLE -5 3\n+1\n", "TABLE -5 3\nx\n", "TABLE -5 3\n7 \n", "TABLE -5 3\n 7\n",
            "TABLE -05 3\n7\n", "TABLE x 3\n7\n", "TABLE -5 x\n7\n", "TABLE\n7\n", "TABLE -5 3\nTABLE -5 3\n7\n",
            "TABLE -5 3\n123456789012345678901\n", "TABLE -5 3\r\n7\r\n", "TABLE -5 3\n\u0663\n", "TABLE -5 3\n1.5\n",
        ]:
            self.assertEqual(error_of(TableError, read_table, text), TEXT, repr(text))
        self.assertEqual(read_table("TABLE -5 3\n12345678901234567890\n"), (-5, 3, (12345678901234567890,)))


if __name__ == "__main__":
    unittest.main()
