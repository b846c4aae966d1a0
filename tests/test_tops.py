"""Point 60."""

import random
import unittest

from truealmanac.places import altitude
from truealmanac.tops import takes_top, top, top_paper
from plain import plain_reach, plain_value, random_quantity, replaced
import samples

HILL = ("wave", ("turning", 0, 1296000, 97))
SLOPE = ("sum", ("number", 5), ("share", ("wave", ("turning", 0, 200, 1)), 1, 1))
FLAT = ("share", ("wave", ("turning", 0, 1296000, 97)), 3, 1000000)


def plain_top(q, start, end):
    values = [plain_value(q, t) for t in range(start, end + 1)]
    return (max(values), start + values.index(max(values)))


def is_sure_top(q, w, t, k):
    return plain_value(q, t) + plain_reach(q, k) <= w


class Tops(unittest.TestCase):
    def test_once_and_several_times(self):
        # 0, 1296000 // 97 and so on: the crest is near the tick 24, and again 97 ticks later.
        for start, end in [(0, 96), (0, 600), (-500, 500), (25, 600), (30, 80), (-1000, -998)]:
            self.assertEqual(top(HILL, start, end), plain_top(HILL, start, end))
        several = ("wave", ("turning", 0, 324000, 25))
        self.assertEqual(top(several, 0, 1000), (1000000, 25))
        self.assertEqual(top(several, 26, 1000), (1000000, 125))
        self.assertEqual(top(several, 25, 1000), (1000000, 25))
        self.assertEqual(top(several, 26, 125), (1000000, 125))

    def test_at_the_first_and_last_tick(self):
        back = ("share", SLOPE, -1, 1)
        self.assertEqual(top(SLOPE, 0, 1000), (plain_value(SLOPE, 1000), 1000))
        self.assertEqual(top(back, 0, 1000), (-5, 0))
        self.assertEqual(top(SLOPE, -3, 3)[1], 3)

    def test_one_tick(self):
        for t in (-10 ** 9, -7, 0, 24, 10 ** 9):
            self.assertEqual(top(HILL, t, t), (plain_value(HILL, t), t))
            self.assertEqual(top_paper(HILL, t, t), [(t, 0)])
            self.assertTrue(takes_top(HILL, t, t, top(HILL, t, t), [(t, 0)]))

    def test_numbers(self):
        for n in (-5, 0, 7, 10 ** 12):
            self.assertEqual(top(("number", n), -3, 500000), (n, -3))
            self.assertEqual(top_paper(("number", n), -3, 500000), [(-3, 500003)])

    def test_values_that_stay(self):
        for start, end in [(0, 96), (0, 500), (30, 60), (-40, 7)]:
            self.assertEqual(top(FLAT, start, end), plain_top(FLAT, start, end))

    def test_any(self):
        rng = random.Random(60)
        for _ in range(150):
            q = random_quantity(rng, rng.randint(1, 4))
            start = rng.randint(-3000, 3000)
            end = start + rng.choice([0, 1, 2, 10, 100, 300])
            self.assertEqual(top(q, start, end), plain_top(q, start, end))

    def test_a_long_span(self):
        sky = samples.sky()
        sky["turning"] = (77, 1296000, 1436)
        sky["bodies"]["sun"]["motion"] = (1000, 1296000, 525949)
        q = altitude(sky, (180000, 40000), "sun")
        w, t = top(q, -300000, 300000)
        self.assertEqual(plain_value(q, t), w)
        cells = top_paper(q, -300000, 300000)
        self.assertLess(len(cells), 60000)
        self.assertTrue(takes_top(q, -300000, 300000, (w, t), cells))
        self.assertLess(top(q, -300000, t - 1)[0], w)


class TopPapers(unittest.TestCase):
    def longest(self, q, start, end):
        w = plain_top(q, start, end)[0]
        cells = top_paper(q, start, end)
        next_tick = start
        for t, k in cells:
            self.assertEqual(t, next_tick)
            self.assertTrue(is_sure_top(q, w, t, k))
            # One tick more is not sure or beyond the span.
            self.assertTrue(t + k == end or not is_sure_top(q, w, t, k + 1))
            next_tick = t + k + 1
        self.assertEqual(next_tick, end + 1)
        self.assertTrue(takes_top(q, start, end, top(q, start, end), cells))

    def test_longest_cells(self):
        for q in (HILL, SLOPE, FLAT, ("number", 3), ("share", SLOPE, -1, 1)):
            for start, end in [(0, 0), (0, 1), (0, 96), (-50, 400)]:
                self.longest(q, start, end)

    def test_any(self):
        rng = random.Random(61)
        for _ in range(80):
            start = rng.randint(-3000, 3000)
            self.longest(random_quantity(rng, rng.randint(1, 4)), start, start + rng.choice([0, 1, 7, 60, 200]))


class Judges(unittest.TestCase):
    def setUp(self):
        self.best = top(HILL, 0, 96)
        self.cells = top_paper(HILL, 0, 96)

    def takes(self, cells, best=None, start=0, end=96):
        taken = takes_top(HILL, start, end, self.best if best is None else best, cells)
        self.assertIs(taken, bool(taken))
        return taken

    def test_the_given_paper(self):
        self.assertTrue(self.takes(self.cells))
        self.assertFalse(self.takes([]))

    def test_changed_cells(self):
        cells = self.cells
        for at, (t, k) in enumerate(cells):
            self.assertFalse(self.takes(replaced(cells, at, (t, k + 1))))
            self.assertFalse(self.takes(replaced(cells, at, (t, k - 1))))
            self.assertFalse(self.takes(replaced(cells, at, (t - 1, k))))
            self.assertFalse(self.takes(cells[:at] + cells[at + 1:]))
            self.assertFalse(self.takes(cells[:at] + [cells[at]] + cells[at:]))
            if at > 0:
                self.assertFalse(self.takes(cells[:at - 1] + [cells[at], cells[at - 1]] + cells[at + 1:]))

    def test_cells_that_are_not_sure(self):
        # Each cell grows by one tick at the cost of the next one, which stays right behind it.
        wrong = 0
        for at in range(len(self.cells) - 1):
            (t, k), (_, after) = self.cells[at:at + 2]
            if after > 0:
                wrong += 1
                self.assertFalse(self.takes(self.cells[:at] + [(t, k + 1), (t + k + 2, after - 1)] + self.cells[at + 2:]))
        self.assertGreater(wrong, 3)
        self.assertFalse(self.takes([(0, 96)]))

    def test_shorter_cells_that_stay_sure(self):
        at = max(range(len(self.cells)), key=lambda at: self.cells[at][1])
        t, k = self.cells[at]
        self.assertGreater(k, 1)
        cut = [(t, 0), (t + 1, 0)] + [(u, 0) for u in range(t + 2, t + k + 1)]
        self.assertTrue(self.takes(self.cells[:at] + cut + self.cells[at + 1:]))
        self.assertTrue(self.takes([(u, 0) for u in range(97)]))
        self.assertFalse(self.takes([(u, 0) for u in range(98)]))
        self.assertFalse(self.takes([(u, 0) for u in range(96)]))
        self.assertFalse(self.takes([(u, 0) for u in range(-1, 97)]))
        self.assertFalse(self.takes([(0, -1)] + [(u, 0) for u in range(97)]))

    def test_other_spans(self):
        for start, end in [(1, 96), (-1, 96), (0, 95), (0, 97)]:
            self.assertFalse(self.takes(self.cells, None, start, end))

    def test_best(self):
        w, t = self.best
        singles = [(u, 0) for u in range(97)]
        for cells in (self.cells, singles):
            for best in [(w + 1, t), (w - 1, t), (w, t + 1), (w, t - 1), (w, -1), (w, 97), (-w, t)]:
                self.assertFalse(self.takes(cells, best), best)
        # A lesser value that the quantity has there is not the greatest one.
        self.assertFalse(self.takes(singles, (plain_value(HILL, 3), 3)))

    def test_ticks_outside(self):
        several = ("wave", ("turning", 0, 324000, 25))
        cells = top_paper(several, 0, 200)
        self.assertTrue(takes_top(several, 0, 200, (1000000, 25), cells))
        # A later tick with the same value is taken, one outside of the span is not.
        self.assertTrue(takes_top(several, 0, 200, (1000000, 125), cells))
        self.assertFalse(takes_top(several, 0, 200, (1000000, 225), cells))
        self.assertFalse(takes_top(several, 0, 200, (1000000, -75), cells))
        self.assertFalse(takes_top(several, 0, 200, (1000000, 26), cells))


if __name__ == "__main__":
    unittest.main()
