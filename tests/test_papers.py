"""Points 9, 10 and 11: changes, papers and their judge."""

import random
import unittest

from truealmanac.finder import changes, paper
from truealmanac.judge import changes_of, takes
from plain import is_sure, plain_changes, plain_reach, plain_value, random_quantity

# Values 0, 1000000, 0, -1000000 and again: 0 is up.
SQUARE = ("wave", ("turning", 0, 324000, 1))
# Touches 0 from below only at its tops.
TOUCHING = ("sum", ("wave", ("turning", 0, 32400, 1)), ("number", -1000000))
HILLS = ("sum", ("wave", ("turning", 0, 1296000, 97)), ("share", ("wave", ("turning", 5, 1296000, 31)), 1, 2))
SLOW = ("sum", ("wave", ("turning", 77, 1296000, 1440)), ("number", -300000))
UP = ("number", 0)
DOWN = ("number", -1)
# Values 0 and -1, and 1 where the wave is 1000000.
LOW = ("share", ("wave", ("turning", 0, 1296000, 97)), 1, 1000000)
SAMPLES = [SQUARE, TOUCHING, HILLS, SLOW, UP, DOWN, LOW, ("wave", ("turning", 0, 648000, 1))]


def samples():
    """Quantities with spans."""
    rng = random.Random(9)
    for q in SAMPLES:
        yield q, 0, 0
        yield q, -700, 800
    for k in range(250):
        start = rng.randint(-5000, 5000)
        yield random_quantity(rng, 5), start, start + rng.choice([0, 1, 2, 300])


class Changes(unittest.TestCase):
    def test_against_every_tick(self):
        for q, start, end in samples():
            self.assertEqual(changes(q, start, end), plain_changes(q, start, end), q)

    def test_zero_is_up(self):
        self.assertEqual(changes(SQUARE, 0, 8), [(3, "down"), (4, "up"), (7, "down"), (8, "up")])
        self.assertEqual(changes(TOUCHING, 0, 60), [(10, "up"), (11, "down"), (50, "up"), (51, "down")])

    def test_ends_of_the_span(self):
        self.assertEqual(changes(SQUARE, 3, 7), [(4, "up"), (7, "down")])
        self.assertEqual(changes(SQUARE, 4, 6), [])
        self.assertEqual(changes(SQUARE, 3, 3), [])
        self.assertEqual(changes(SQUARE, 2, 3), [(3, "down")])

    def test_never_and_always_up(self):
        for q in (UP, DOWN, ("number", 10 ** 12), ("sum", HILLS, ("number", 2000000))):
            self.assertEqual(changes(q, -300000, 300000), [])

    def test_far_ticks(self):
        far = 10 ** 9
        self.assertEqual(changes(SLOW, far - 3000, far), plain_changes(SLOW, far - 3000, far))
        self.assertEqual(changes(SLOW, -far, 3000 - far), plain_changes(SLOW, -far, 3000 - far))


class Papers(unittest.TestCase):
    def test_longest_sure_cells(self):
        for q, start, end in samples():
            cells = paper(q, start, end)
            next_tick = start
            for t, k in cells:
                self.assertEqual(t, next_tick)
                self.assertTrue(k >= 0 and t + k <= end and is_sure(q, t, k), (q, t, k))
                self.assertTrue(t + k == end or not is_sure(q, t, k + 1), (q, t, k))
                next_tick = t + k + 1
            self.assertEqual(next_tick, end + 1)

    def test_told_papers(self):
        self.assertEqual(paper(SQUARE, 0, 3), [(0, 0), (1, 0), (2, 0), (3, 0)])
        self.assertEqual(paper(UP, -5, 600000), [(-5, 600005)])
        self.assertEqual(paper(DOWN, 7, 7), [(7, 0)])
        wave = ("wave", ("turning", 0, 60, 1))
        # The wave is 2501 at the tick 9, and the reach for 9 ticks is 2501, that for 10 ticks 2778.
        tick = next(t for t in range(100) if plain_value(wave, t) >= 2501)
        self.assertEqual((tick, plain_value(wave, tick), plain_reach(wave, 10)), (10, 2777, 2778))
        self.assertEqual(paper(wave, 10, 600)[0], (10, 9))

    def test_up_and_down_at_the_bound(self):
        # Reach 5 for 1 tick: enough for a value of 5, but not for -5.
        slow = ("share", ("wave", ("turning", 0, 1, 1)), 1, 1)
        self.assertEqual(plain_reach(slow, 1), 5)
        for rise, length in ((5, 1), (4, 0), (-5, 0), (-6, 1)):
            q = ("sum", slow, ("number", rise))
            self.assertEqual(paper(q, 0, 50)[0], (0, length), rise)
            rest = [(t, 0) for t in range(2, 51)]
            self.assertIs(takes(q, 0, 50, [(0, 1), *rest]), length == 1)
            self.assertIs(takes(q, 0, 50, [(0, 0), (1, 0), *rest]), True)

    def test_few_cells(self):
        self.assertLess(len(paper(SLOW, 0, 600000)), 40000)


class Judges(unittest.TestCase):
    def test_takes_the_paper_and_knows_its_changes(self):
        for q, start, end in samples():
            cells = paper(q, start, end)
            self.assertIs(takes(q, start, end, cells), True)
            self.assertEqual(changes_of(q, cells), plain_changes(q, start, end))

    def test_takes_shorter_cells(self):
        rng = random.Random(91)
        for q, start, end in samples():
            single = [(t, 0) for t in range(start, end + 1)]
            self.assertIs(takes(q, start, end, single), True)
            cells = []
            t = start
            while t <= end:
                k = rng.randint(0, 6)
                while t + k > end or not is_sure(q, t, k):
                    k -= 1
                cells.append((t, k))
                t += k + 1
            self.assertIs(takes(q, start, end, cells), True)
            self.assertEqual(changes_of(q, cells), plain_changes(q, start, end))

    def test_takes_no_other_list(self):
        for q, start, end in [(HILLS, 0, 120), (SLOW, -50, 900), (SQUARE, 0, 5), (UP, 0, 10), (DOWN, 3, 3)]:
            cells = paper(q, start, end)
            for wrong in self.wrong_lists(cells):
                self.assertIs(takes(q, start, end, wrong), False, (cells, wrong))
            self.assertIs(takes(q, start, end, []), False)
            self.assertIs(takes(q, start, end + 1, cells), False)
            self.assertIs(takes(q, start - 1, end, cells), False)

    def wrong_lists(self, cells):
        for at, (t, k) in enumerate(cells):
            for other in [(t, k + 1), (t, k - 1), (t + 1, k), (t - 1, k), (t + 1, k - 1), (t, -1), (t, -k - 1)]:
                yield [*cells[:at], other, *cells[at + 1:]]
            yield [*cells[:at], *cells[at + 1:]]
            yield [*cells[:at], cells[at], *cells[at:]]
            for beside in range(at):
                changed = list(cells)
                changed[at], changed[beside] = changed[beside], changed[at]
                yield changed
        t, k = cells[-1]
        yield [*cells, (t + k + 1, 0)]
        yield [*cells, (t + k + 1, -1)]
        yield [(cells[0][0] - 1, 0), *cells]
        yield [(cells[0][0], -1), *cells]

    def test_takes_no_cell_that_is_not_sure(self):
        for q, start, end in [(HILLS, 0, 300), (SLOW, -50, 2000), (TOUCHING, 0, 100)]:
            cells = paper(q, start, end)
            for at, (t, k) in enumerate(cells[:-1]):
                # One tick more, and the rest in cells that are sure: only this cell is at fault.
                rest = [(tick, 0) for tick in range(t + k + 2, end + 1)]
                self.assertIs(takes(q, start, end, [*cells[:at], (t, k + 1), *rest]), False)
                self.assertIs(takes(q, start, end, [*cells[:at], (t, k), (t + k + 1, 0), *rest]), True)


if __name__ == "__main__":
    unittest.main()
