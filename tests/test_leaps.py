"""Point 52."""

import random
import unittest

from truealmanac.leaps import counts_of, label


def label_as_told(table, e):
    s = sum(step for begin, step in table if begin <= e)
    return (e - s, (e, 1) in table)


class Leaps(unittest.TestCase):
    def test_no_leaps(self):
        for e in (-5, 0, 10 ** 12):
            self.assertEqual(label((), e), (e, False))
            self.assertEqual(counts_of((), (e, False)), [e])
            self.assertEqual(counts_of((), (e, True)), [])

    def test_a_label_that_comes_again(self):
        table = ((10, 1),)
        self.assertEqual([label(table, e) for e in range(8, 13)],
                         [(8, False), (9, False), (9, True), (10, False), (11, False)])
        self.assertEqual([counts_of(table, (x, False)) for x in (8, 9, 10)], [[8], [9], [11]])
        self.assertEqual([counts_of(table, (x, True)) for x in (8, 9, 10)], [[], [10], []])

    def test_a_label_that_is_left_out(self):
        table = ((10, -1),)
        self.assertEqual([label(table, e) for e in range(8, 12)], [(8, False), (9, False), (11, False), (12, False)])
        self.assertEqual([counts_of(table, (x, False)) for x in (9, 10, 11)], [[9], [], [10]])
        self.assertEqual([counts_of(table, (x, True)) for x in (9, 10, 11)], [[], [], []])

    def test_step_by_step(self):
        rng = random.Random(52)
        for _ in range(200):
            table = []
            e = rng.randint(-15, 0)
            for _ in range(rng.randint(0, 8)):
                table.append((e, rng.choice([1, -1])))
                e += rng.choice([2, 2, 3, 7])
            table = tuple(table)
            known = {}
            x = -40
            for e in range(-40, 60):
                if (e, 1) in table:
                    # The label of the count before comes again.
                    told = (x - 1, True)
                else:
                    x += 1 if (e, -1) in table else 0
                    told = (x, False)
                    x += 1
                self.assertEqual(label(table, e), told)
                self.assertEqual(told, label_as_told(table, e))
                self.assertIs(label(table, e)[1], told[1])
                known.setdefault(told, []).append(e)
            for x in range(-30, 40):
                for leap in (False, True):
                    self.assertEqual(counts_of(table, (x, leap)), known.get((x, leap), []))

    def test_many_leaps(self):
        table = tuple((1000 * k, 1) for k in range(300))
        self.assertEqual(label(table, 299000), (298700, True))
        self.assertEqual(counts_of(table, (298700, True)), [299000])
        self.assertEqual(counts_of(table, (298700, False)), [298999])
        self.assertEqual(counts_of(table, (298701, False)), [299001])


if __name__ == "__main__":
    unittest.main()
