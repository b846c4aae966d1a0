"""Point 65."""

import random
import unittest
from itertools import combinations

from truealmanac.watches import plan, takes_plan
from plain import replaced


def are_apart(first, second):
    return first[1] < second[0] or second[1] < first[0]


def plan_as_told(windows):
    chosen, stops = [], []
    while True:
        left = [(end, at) for at, (start, end) in enumerate(windows) if not stops or start > stops[-1]]
        if not left:
            return tuple(chosen), tuple(stops)
        end, at = min(left)
        chosen.append(at)
        stops.append(end)


def is_plan(windows, chosen, stops):
    if len(chosen) != len(stops) or any(not 0 <= at < len(windows) for at in chosen):
        return False
    told = [windows[at] for at in chosen]
    apart = all(are_apart(*pair) for pair in combinations(told, 2))
    in_order = [w[0] for w in told] == sorted(w[0] for w in told) and list(stops) == sorted(stops)
    return apart and in_order and all(any(start <= stop <= end for stop in stops) for start, end in windows)


def most_apart(windows):
    """The greatest number of windows that are apart, by all choices."""
    best = 0
    for many in range(1, len(windows) + 1):
        if any(all(are_apart(*pair) for pair in combinations(told, 2)) for told in combinations(windows, many)):
            best = many
    return best


def random_windows(rng, most):
    found = []
    for _ in range(rng.randint(0, most)):
        start = rng.randint(-15, 15)
        found.append((start, start + rng.choice([0, 0, 1, 2, 5, 12])))
    return found


class Plans(unittest.TestCase):
    def test_no_windows_and_one(self):
        self.assertEqual(plan([]), ((), ()))
        self.assertEqual(plan([(5, 5)]), ((0,), (5,)))
        self.assertEqual(plan([(-10 ** 9, 10 ** 9)]), ((0,), (10 ** 9,)))

    def test_equal_windows(self):
        self.assertEqual(plan([(1, 4)] * 3), ((0,), (4,)))
        self.assertEqual(plan([(9, 9), (1, 4), (9, 9), (1, 4)]), ((1, 0), (4, 9)))

    def test_nested_windows(self):
        self.assertEqual(plan([(0, 100), (10, 90), (20, 30), (40, 50), (25, 60)]), ((2, 3), (30, 50)))
        self.assertEqual(plan([(20, 30), (0, 30), (30, 30)]), ((0,), (30,)))

    def test_windows_that_touch(self):
        # They have the tick 5 in common.
        self.assertEqual(plan([(5, 9), (1, 5)]), ((1,), (5,)))
        self.assertEqual(plan([(6, 9), (1, 5)]), ((1, 0), (5, 9)))
        self.assertEqual(plan([(1, 5), (5, 5), (5, 9), (9, 12), (10, 10)]), ((0, 4), (5, 10)))

    def test_ends_that_are_equal(self):
        self.assertEqual(plan([(8, 9), (1, 3), (0, 3), (2, 3), (7, 9)]), ((1, 0), (3, 9)))

    def test_against_all_choices(self):
        rng = random.Random(65)
        for _ in range(250):
            windows = random_windows(rng, 8)
            chosen, stops = plan(windows)
            self.assertEqual((chosen, stops), plan_as_told(windows))
            self.assertTrue(is_plan(windows, chosen, stops))
            self.assertEqual(len(chosen), most_apart(windows))

    def test_many_windows(self):
        windows = [(at * 37 % 20011, at * 37 % 20011 + at % 50) for at in range(20000)]
        chosen, stops = plan(windows)
        self.assertTrue(takes_plan(windows, chosen, stops))


class Judges(unittest.TestCase):
    WINDOWS = [(0, 9), (20, 25), (5, 12), (9, 30), (40, 40), (26, 28), (22, 50)]

    def takes(self, chosen, stops, windows=None):
        told = self.WINDOWS if windows is None else windows
        taken = takes_plan(told, chosen, stops)
        self.assertIs(taken, is_plan(told, chosen, stops))
        return taken

    def test_the_given_plan(self):
        self.assertEqual(plan(self.WINDOWS), ((0, 1, 5, 4), (9, 25, 28, 40)))
        self.assertTrue(self.takes((0, 1, 5, 4), (9, 25, 28, 40)))
        # Other stops, and other windows that are apart, do as well.
        self.assertFalse(self.takes((0, 1, 5, 4), (4, 22, 27, 40)))
        self.assertTrue(self.takes((0, 1, 5, 4), (9, 22, 27, 40)))
        self.assertTrue(self.takes((2, 1, 5, 4), (9, 22, 27, 40)))

    def test_changed_indexes(self):
        chosen, stops = plan(self.WINDOWS)
        for at in range(4):
            for wrong in [-1, -7, 7, 100, 3, 6]:
                self.assertFalse(self.takes(tuple(replaced(chosen, at, wrong)), stops))
            self.assertFalse(self.takes(chosen[:at] + chosen[at + 1:], stops))
            self.assertFalse(self.takes(chosen[:at] + (chosen[at],) + chosen[at:], stops))
            if at > 0:
                self.assertFalse(self.takes(chosen[:at - 1] + (chosen[at], chosen[at - 1]) + chosen[at + 1:], stops))

    def test_indexes_from_behind(self):
        # The index -1 would be the window itself.
        self.assertTrue(self.takes((0,), (5,), [(1, 5)]))
        self.assertFalse(self.takes((-1,), (5,), [(1, 5)]))
        self.assertFalse(self.takes((1,), (5,), [(1, 5)]))

    def test_changed_stops(self):
        chosen, stops = plan(self.WINDOWS)
        for at in range(4):
            for wrong in [-1, 13, 31, 60]:
                self.assertFalse(self.takes(chosen, tuple(replaced(stops, at, wrong))))
            self.assertFalse(self.takes(chosen, stops[:at] + stops[at + 1:]))
            self.assertFalse(self.takes(chosen, stops[:at] + (stops[at],) + stops[at:]))
            self.assertFalse(self.takes(chosen[:at] + chosen[at + 1:], stops[:at] + stops[at + 1:]))
            if at > 0:
                self.assertFalse(self.takes(chosen, stops[:at - 1] + (stops[at], stops[at - 1]) + stops[at + 1:]))
        self.assertFalse(self.takes(chosen + (3,), stops + (45,)))
        self.assertFalse(self.takes((), ()))

    def test_no_windows(self):
        self.assertTrue(self.takes((), (), []))
        self.assertFalse(self.takes((), (5,), []))
        self.assertFalse(self.takes((0,), (5,), []))
        self.assertFalse(self.takes((0,), (), [(1, 5)]))
        self.assertFalse(self.takes((), (), [(1, 5)]))

    def test_stops_at_the_edges(self):
        for stop in range(0, 8):
            self.assertIs(self.takes((0,), (stop,), [(2, 5)]), 2 <= stop <= 5)
            self.assertIs(self.takes((0,), (stop,), [(2, 5), (5, 6)]), stop == 5)

    def test_any(self):
        rng = random.Random(66)
        taken = 0
        for _ in range(3000):
            windows = random_windows(rng, 4)
            chosen, stops = plan(windows)
            many = rng.choice([len(chosen), len(chosen), 1, 2])
            changed = tuple(rng.choice([at, rng.randint(-1, 4)]) for at in (*chosen, *range(4)))[:many]
            moved = tuple(rng.choice([stop, stop + rng.randint(-3, 3)]) for stop in (*stops, 0, 0))[:many]
            taken += self.takes(changed, moved, windows)
        self.assertGreater(taken, 200)


if __name__ == "__main__":
    unittest.main()
