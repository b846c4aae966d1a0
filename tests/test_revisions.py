"""Points 76 and 77."""

import random
import unittest
from itertools import combinations

from truealmanac.revisions import best_matching, report


def all_matchings(old, new, limit):
    for many in range(min(len(old), len(new)) + 1):
        for first in combinations(range(len(old)), many):
            for second in combinations(range(len(new)), many):
                pairs = list(zip(first, second))
                if all(abs(old[i] - new[j]) <= limit for i, j in pairs):
                    yield pairs


def matching_as_told(old, new, limit):
    def rank(pairs):
        return (-len(pairs), sum(abs(old[i] - new[j]) for i, j in pairs), pairs)

    return min(all_matchings(old, new, limit), key=rank)


def report_as_told(old, new, limit):
    lines = []
    for kind, names in sorted({event[1:] for event in old + new}):
        before = [t for t, *label in old if tuple(label) == (kind, names)]
        after = [t for t, *label in new if tuple(label) == (kind, names)]
        pairs = matching_as_told(before, after, limit)
        label = " ".join([kind, *names])
        lines += [f"MOVED {label} {before[i]} {after[j]}" for i, j in pairs if before[i] != after[j]]
        lines += [f"GONE {label} {t}" for i, t in enumerate(before) if i not in [i for i, _ in pairs]]
        lines += [f"NEW {label} {t}" for j, t in enumerate(after) if j not in [j for _, j in pairs]]
    return "".join(line + "\n" for line in lines)


class Matchings(unittest.TestCase):
    def test_empty_lists(self):
        for old, new in [([], []), ([1, 2], []), ([], [1, 2])]:
            for limit in (0, 5):
                self.assertEqual(best_matching(old, new, limit), [])

    def test_limits(self):
        self.assertEqual(best_matching([10], [10], 0), [(0, 0)])
        self.assertEqual(best_matching([10], [11], 0), [])
        self.assertEqual(best_matching([10], [15], 5), [(0, 0)])
        self.assertEqual(best_matching([15], [10], 5), [(0, 0)])
        self.assertEqual(best_matching([10], [16], 5), [])
        self.assertEqual(best_matching([1, 5, 9], [1, 6, 9], 0), [(0, 0), (2, 2)])
        self.assertEqual(best_matching([-10 ** 9], [10 ** 9], 2 * 10 ** 9), [(0, 0)])

    def test_most_pairs_first(self):
        # The nearest one of 10 is 9, but then 5 has none.
        self.assertEqual(best_matching([5, 10], [9, 14], 5), [(0, 0), (1, 1)])
        self.assertEqual(best_matching([5, 10], [9, 16], 5), [(1, 0)])
        # Three pairs with the sum 15 are better than two with the sum 0.
        self.assertEqual(best_matching([0, 5, 10], [5, 10, 15], 5), [(0, 0), (1, 1), (2, 2)])
        self.assertEqual(best_matching([0, 5, 10], [5, 10, 15], 4), [(1, 0), (2, 1)])

    def test_least_sums(self):
        self.assertEqual(best_matching([0, 10], [9], 10), [(1, 0)])
        self.assertEqual(best_matching([9], [0, 10, 11], 10), [(0, 1)])
        self.assertEqual(best_matching([10, 20, 30], [11, 29], 10), [(0, 0), (2, 1)])

    def test_least_lists(self):
        self.assertEqual(best_matching([0, 10], [5], 5), [(0, 0)])
        self.assertEqual(best_matching([5], [0, 10], 5), [(0, 0)])
        # Equal ticks: the first ones are taken.
        self.assertEqual(best_matching([7, 7, 7], [7], 0), [(0, 0)])
        self.assertEqual(best_matching([7], [7, 7, 7], 0), [(0, 0)])
        self.assertEqual(best_matching([7, 7, 7], [7, 7], 3), [(0, 0), (1, 1)])
        self.assertEqual(best_matching([7, 7, 7], [6, 8], 3), [(0, 0), (1, 1)])
        self.assertEqual(best_matching([0, 10, 20], [5, 15], 5), [(0, 0), (1, 1)])

    def test_against_all_matchings(self):
        rng = random.Random(76)
        ties = 0
        for _ in range(1200):
            span = rng.choice([3, 8, 25])
            old = sorted(rng.randint(0, span) for _ in range(rng.randint(0, 5)))
            new = sorted(rng.randint(0, span) for _ in range(rng.randint(0, 5)))
            limit = rng.choice([0, 1, 2, 4, 30])
            told = matching_as_told(old, new, limit)
            self.assertEqual(best_matching(old, new, limit), told)
            total = sum(abs(old[i] - new[j]) for i, j in told)
            ties += sum(1 for pairs in all_matchings(old, new, limit)
                        if len(pairs) == len(told) and sum(abs(old[i] - new[j]) for i, j in pairs) == total) > 1
        self.assertGreater(ties, 200)

    def test_60_ticks(self):
        rng = random.Random(77)
        many = list(range(60))
        self.assertEqual(best_matching([7] * 60, [7] * 60, 0), list(zip(many, many)))
        self.assertEqual(best_matching([7] * 60, [8] * 60, 1), list(zip(many, many)))
        self.assertEqual(best_matching([2 * k for k in many], [2 * k + 1 for k in many], 1), list(zip(many, many)))
        self.assertEqual(best_matching([2 * k for k in many], [2 * k - 2 for k in many], 1), list(zip(many, many[1:])))
        for limit in (0, 3, 100, 10 ** 6):
            old, new = [sorted(rng.randint(0, 600) for _ in many) for _ in range(2)]
            pairs = best_matching(old, new, limit)
            self.assertTrue(all(abs(old[i] - new[j]) <= limit for i, j in pairs))
            self.assertTrue(all(a < c and b < d for (a, b), (c, d) in zip(pairs, pairs[1:])))
            if limit == 10 ** 6:
                self.assertEqual(pairs, list(zip(many, many)))


class Reports(unittest.TestCase):
    OLD = [(5, "set", ("sun",)), (10, "rise", ("sun",)), (20, "phase0", ("moon", "sun")), (30, "rise", ("sun",)),
           (40, "rise", ("moon",)), (50, "rise", ("sun",)), (60, "rise", ("sun",))]
    NEW = [(5, "set", ("sun",)), (12, "rise", ("sun",)), (30, "rise", ("sun",)), (49, "rise", ("sun",)),
           (70, "rise", ("moon",)), (90, "rise", ("sun",)), (95, "begin", ("mars", "sun"))]

    def test_lines_in_order(self):
        self.assertEqual(report(self.OLD, self.NEW, 5), "".join(line + "\n" for line in [
            "NEW begin mars sun 95",
            "GONE phase0 moon sun 20",
            "GONE rise moon 40",
            "NEW rise moon 70",
            "MOVED rise sun 10 12",
            "MOVED rise sun 50 49",
            "GONE rise sun 60",
            "NEW rise sun 90",
        ]))

    def test_limits(self):
        self.assertIn("MOVED rise moon 40 70\n", report(self.OLD, self.NEW, 30))
        self.assertIn("GONE rise moon 40\nNEW rise moon 70\n", report(self.OLD, self.NEW, 29))
        told = report(self.OLD, self.NEW, 0)
        self.assertNotIn("MOVED", told)
        self.assertIn("GONE rise sun 10\nGONE rise sun 50\nGONE rise sun 60\nNEW rise sun 12\n", told)

    def test_kinds_and_names(self):
        # Names ascend as tuples: (), (a,), (a, b), (aa,).
        events = [(1, "x", ("aa",)), (2, "x", ("a", "b")), (3, "x", ("a",)), (4, "x", ()), (5, "w", ("z",)), (6, "x1", ())]
        told = "NEW w z 5\nNEW x 4\nNEW x a 3\nNEW x a b 2\nNEW x aa 1\nNEW x1 6\n"
        self.assertEqual(report([], events, 100), told)
        self.assertEqual(report(events, [], 100), told.replace("NEW", "GONE"))
        # Other kinds or names are never matched.
        self.assertEqual(report([(1, "x", ("a",))], [(1, "x", ("b",))], 9), "GONE x a 1\nNEW x b 1\n")
        self.assertEqual(report([(1, "x", ("a", "b"))], [(1, "x", ("b", "a"))], 9), "GONE x a b 1\nNEW x b a 1\n")

    def test_equal_lists(self):
        for limit in (0, 1, 1000):
            self.assertEqual(report(self.OLD, list(self.OLD), limit), "")
            self.assertEqual(report([], [], limit), "")
            for at in range(len(self.OLD)):
                self.assertNotEqual(report(self.OLD, self.OLD[:at] + self.OLD[at + 1:], limit), "")

    def test_a_matching_without_moves(self):
        # 10 stays 10 and 14 is gone, rather than 10 to 14 and so on.
        old, new = [(10, "a", ()), (14, "a", ())], [(10, "a", ())]
        self.assertEqual(report(old, new, 5), "GONE a 14\n")
        self.assertEqual(report(new, old, 5), "NEW a 14\n")

    def test_any(self):
        rng = random.Random(78)
        for _ in range(300):
            lists = []
            for _ in range(2):
                events = {(rng.randint(-9, 9), rng.choice(["a", "b"]), rng.choice([("x",), ("x", "y")])) for _ in range(8)}
                lists.append(sorted(events))
            limit = rng.choice([0, 1, 3, 50])
            told = report(*lists, limit)
            self.assertEqual(told, report_as_told(*lists, limit))
            self.assertIs(told == "", lists[0] == lists[1])


if __name__ == "__main__":
    unittest.main()
