"""Points 63 and 64."""

import random
import unittest
from itertools import permutations

from truealmanac.chronology import chronology, fulfilled, takes_circle

BIG = 10 ** 9


def edges_as_told(constraints):
    """Each edge with where it begins, where it ends, and its limit."""
    found = []
    for i, (a, b, low, high) in enumerate(constraints):
        if high is not None:
            found.append(((i, 1), a, b, high))
        if low is not None:
            found.append(((i, -1), b, a, -low))
    return found


def is_circle(constraints, edges):
    told = {edge: way for edge, *way in edges_as_told(constraints)}
    if not edges or any(edge not in told for edge in edges):
        return False
    ways = [told[edge] for edge in edges]
    joined = all(ways[k - 1][1] == ways[k][0] for k in range(len(ways)))
    return joined and sum(limit for _, _, limit in ways) < 0


def least_limits(names, constraints):
    """The least sum of limits of all ways that come to no name twice; None if one of a circle is below 0."""
    direct = {}
    for _, a, b, limit in edges_as_told(constraints):
        direct[a, b] = min(limit, direct.get((a, b), limit))

    def total(way):
        steps = [direct.get(pair) for pair in zip(way, way[1:])]
        return None if None in steps else sum(steps)

    found = {}
    for many in range(1, len(names) + 1):
        for way in permutations(names, many):
            around = total([*way, way[0]])
            if many > 1 and around is not None and around < 0:
                return None
            if many > 1 and total(way) is not None:
                key = (way[0], way[-1])
                found[key] = min(total(way), found.get(key, total(way)))
    return found


def bounds_as_told(names, constraints):
    least = least_limits(names, constraints)
    if least is None:
        return None
    found = {}
    for a, b in permutations(names, 2):
        low = least.get((b, a))
        found[a, b] = (None if low is None else -low, least.get((a, b)))
    return found


def fulfils(ticks, constraints):
    return all((low is None or ticks[b] - ticks[a] >= low) and (high is None or ticks[b] - ticks[a] <= high)
               for a, b, low, high in constraints)


def random_constraints(rng, names, most):
    found = []
    for _ in range(rng.randint(0, most) if len(names) > 1 else 0):
        a, b = rng.sample(names, 2)
        low, high = sorted([rng.randint(-20, 20), rng.randint(-20, 20)])
        if rng.random() < 0.1:
            low, high = high, low
        found.append((a, b, None if rng.random() < 0.3 else low, None if rng.random() < 0.3 else high))
    return found


class Chronologies(unittest.TestCase):
    def check(self, names, constraints):
        kind, told = chronology(names, constraints)
        ticks = fulfilled(names, constraints)
        bounds = bounds_as_told(names, constraints)
        if bounds is None:
            self.assertEqual((kind, ticks), ("circle", None))
            self.circle(constraints, told)
        else:
            self.assertEqual((kind, told), ("bounds", bounds))
            self.assertEqual(sorted(ticks), sorted(names))
            self.assertTrue(fulfils(ticks, constraints))
        return kind

    def circle(self, constraints, told):
        self.assertIsInstance(told, tuple)
        self.assertTrue(all(isinstance(edge, tuple) and len(edge) == 2 for edge in told))
        self.assertTrue(is_circle(constraints, told))
        self.assertTrue(takes_circle(constraints, told))
        begins = {edge: a for edge, a, _, _ in edges_as_told(constraints)}
        names = [begins[edge] for edge in told]
        self.assertEqual(len(names), len(set(names)))

    def test_one_name(self):
        self.assertEqual(chronology(["a"], []), ("bounds", {}))
        self.assertEqual(list(fulfilled(["a"], [])), ["a"])

    def test_no_names_and_many(self):
        # Beyond the limits of the document there is no error.
        self.assertEqual(chronology([], []), ("bounds", {}))
        self.assertEqual(fulfilled([], []), {})
        names = [str(k) for k in range(14)]
        constraints = [(a, b, 1, 2) for a, b in zip(names, names[1:])] * 3
        self.assertEqual(chronology(names, constraints)[1]["0", "13"], (13, 26))
        self.assertTrue(fulfils(fulfilled(names, constraints), constraints))

    def test_two_names(self):
        for low, high in [(3, 8), (3, 3), (-8, -3), (0, 0), (-BIG, BIG), (None, 8), (3, None), (None, None)]:
            back = (None if high is None else -high, None if low is None else -low)
            self.assertEqual(chronology(["a", "b"], [("a", "b", low, high)]),
                             ("bounds", {("a", "b"): (low, high), ("b", "a"): back}))
            self.check(["a", "b"], [("a", "b", low, high)])

    def test_told_twice(self):
        one = ("a", "b", 3, 8)
        self.assertEqual(chronology(["a", "b"], [one, one]), chronology(["a", "b"], [one]))
        self.assertEqual(chronology(["a", "b"], [one, ("b", "a", -6, None), ("a", "b", 4, 7)])[1]["a", "b"], (4, 6))

    def test_low_above_high(self):
        kind, circle = chronology(["a", "b"], [("a", "b", 8, 7)])
        self.assertEqual((kind, sorted(circle)), ("circle", [(0, -1), (0, 1)]))
        self.assertIsNone(fulfilled(["a", "b"], [("a", "b", 8, 7)]))
        self.assertEqual(chronology(["a", "b"], [("a", "b", 7, 7)])[0], "bounds")

    def test_a_chain(self):
        names = ["rome", "", "A B", "x"]
        constraints = [("rome", "", 1, 2), ("", "A B", 10, None), ("x", "A B", None, -5)]
        told = chronology(names, constraints)[1]
        self.assertEqual(told["rome", "A B"], (11, None))
        self.assertEqual(told["A B", "rome"], (None, -11))
        self.assertEqual(told["rome", "x"], (16, None))
        self.assertEqual(told["", "rome"], (-2, -1))
        self.check(names, constraints)

    def test_names_that_nothing_joins(self):
        told = chronology(["a", "b", "c", "d"], [("a", "b", 1, 2), ("c", "d", None, 5)])[1]
        self.assertEqual(told["a", "c"], (None, None))
        self.assertEqual(told["d", "b"], (None, None))
        self.assertEqual(told["c", "d"], (None, 5))
        self.assertEqual(len(told), 12)

    def test_a_sum_of_0(self):
        # Around a, b, c the limits are 5, 7 and -12, which is no circle; one less is one.
        for third, kind in [(-12, "bounds"), (-13, "circle")]:
            constraints = [("a", "b", None, 5), ("b", "c", None, 7), ("c", "a", None, third)]
            self.assertEqual(self.check(["a", "b", "c"], constraints), kind)
            self.assertIs(takes_circle(constraints, ((0, 1), (1, 1), (2, 1))), kind == "circle")
        told = chronology(["c", "a", "b"], [("a", "b", None, 5), ("b", "c", None, 7), ("c", "a", None, -12)])[1]
        self.assertEqual(told["a", "b"], (5, 5))
        self.assertEqual(told["a", "c"], (12, 12))

    def test_ten_names(self):
        rng = random.Random(64)
        names = [str(k) for k in range(10)]
        line = [(a, b, 1, 5) for a, b in zip(names, names[1:])]
        told = chronology(names[::-1], line)[1]
        self.assertEqual(len(told), 90)
        for a, b in permutations(range(10), 2):
            self.assertEqual(told[str(a), str(b)], (b - a, 5 * (b - a)) if b > a else (5 * (b - a), b - a))
        self.assertTrue(fulfils(fulfilled(names, line), line))
        # A circle through all ten names.
        for order in (names, names[::-1], rng.sample(names, 10)):
            kind, circle = chronology(order, line + [("0", "9", None, 8)])
            self.assertEqual((kind, len(circle)), ("circle", 10))
            self.circle(line + [("0", "9", None, 8)], circle)

    def test_many_constraints(self):
        rng = random.Random(65)
        names = [str(k) for k in range(10)]
        kinds = []
        for _ in range(300):
            ticks = {name: rng.randint(-50, 50) for name in names}
            constraints = []
            for _ in range(30):
                a, b = rng.sample(names, 2)
                apart = ticks[b] - ticks[a]
                constraints.append((a, b, apart - rng.randint(0, 3), apart + rng.randint(-1, 3)))
            kind, told = chronology(names, constraints)
            kinds.append(kind)
            given = fulfilled(names, constraints)
            self.assertIs(given is None, kind == "circle")
            if kind == "circle":
                self.circle(constraints, told)
            else:
                self.assertTrue(fulfils(given, constraints))
        self.assertEqual(set(kinds), {"bounds", "circle"})

    def test_against_all_ways(self):
        rng = random.Random(63)
        kinds = []
        for _ in range(1500):
            names = ["a", "b", "c", "d"][:rng.choice([1, 2, 3, 3, 4])]
            rng.shuffle(names)
            kinds.append(self.check(names, random_constraints(rng, names, 6)))
        self.assertGreater(kinds.count("circle"), 100)
        self.assertGreater(kinds.count("bounds"), 100)

    def test_each_bound_is_reached(self):
        rng = random.Random(66)
        for _ in range(150):
            names = ["a", "b", "c"]
            constraints = random_constraints(rng, names, 4)
            kind, told = chronology(names, constraints)
            if kind == "bounds":
                for (a, b), (low, high) in told.items():
                    for bound in [bound for bound in (low, high) if bound is not None]:
                        self.assertIsNotNone(fulfilled(names, constraints + [(a, b, bound, bound)]))
                    if high is not None:
                        self.assertIsNone(fulfilled(names, constraints + [(a, b, high + 1, None)]))
                    else:
                        self.assertIsNotNone(fulfilled(names, constraints + [(a, b, 10 ** 6, None)]))

    def test_ticks_have_a_range(self):
        constraints = [("a", "b", BIG, None), ("b", "c", BIG, None)]
        ticks = fulfilled(["a", "b", "c"], constraints)
        self.assertTrue(fulfils(ticks, constraints))
        self.assertEqual(sorted(ticks.values()), [-BIG, 0, BIG])


class Circles(unittest.TestCase):
    CONSTRAINTS = [("a", "b", 2, 5), ("b", "c", 4, None), ("a", "c", None, 3), ("c", "d", 0, 0), ("a", "b", None, None),
                   ("b", "a", 1, 9)]
    # a to c is at most 3, c to b at most -4, b to a at most -2.
    CIRCLE = ((2, 1), (1, -1), (0, -1))

    def takes(self, edges):
        taken = takes_circle(self.CONSTRAINTS, edges)
        self.assertIs(taken, is_circle(self.CONSTRAINTS, edges))
        return taken

    def test_a_circle(self):
        for k in range(3):
            self.assertTrue(self.takes(self.CIRCLE[k:] + self.CIRCLE[:k]))
        # Twice around it is one, too, since a judge does not ask for names.
        self.assertTrue(self.takes(self.CIRCLE * 2))
        self.assertTrue(self.takes(((2, 1), (3, 1), (3, -1), (1, -1), (0, -1))))
        # b to a by the constraint 5, which leads there, and by the constraint 0 back.
        self.assertFalse(self.takes(((5, 1), (0, 1))))
        self.assertTrue(self.takes(((5, -1), (0, -1))))

    def test_edges_that_do_not_join(self):
        self.assertFalse(self.takes(self.CIRCLE[::-1]))
        for k in range(3):
            self.assertFalse(self.takes(self.CIRCLE[:k] + self.CIRCLE[k + 1:]))
            self.assertFalse(self.takes(self.CIRCLE[:k] + (self.CIRCLE[k],) + self.CIRCLE[k:]))
            self.assertFalse(self.takes((self.CIRCLE[k],)))
        self.assertFalse(self.takes(((1, -1), (0, -1))))

    def test_no_edges(self):
        for edge in [(6, 1), (-1, 1), (-6, 1), (100, -1), (2, 0), (2, 2), (2, -2), (2, -1), (1, 1), (4, 1), (4, -1)]:
            self.assertFalse(self.takes((edge,)))
            for k in range(3):
                self.assertFalse(self.takes(self.CIRCLE[:k] + (edge,) + self.CIRCLE[k + 1:]))
        self.assertFalse(self.takes(()))

    def test_an_index_from_behind(self):
        # The last constraint by the index -1 would make a circle.
        constraints = [("a", "b", None, -1), ("b", "a", None, 0)]
        self.assertTrue(takes_circle(constraints, ((0, 1), (1, 1))))
        self.assertFalse(takes_circle(constraints, ((0, 1), (-1, 1))))
        self.assertFalse(takes_circle(constraints, ((-2, 1), (1, 1))))
        self.assertFalse(takes_circle([], ((0, 1),)))

    def test_sums(self):
        for high, taken in [(-1, True), (0, False), (1, False), (-10 ** 12, True)]:
            constraints = [("a", "b", None, 7), ("b", "a", None, high - 7)]
            self.assertIs(takes_circle(constraints, ((0, 1), (1, 1))), taken)

    def test_any(self):
        rng = random.Random(67)
        taken = 0
        for _ in range(5000):
            edges = tuple((rng.choice([-1, 0, 0, 1, 2, 3, 5, 6]), rng.choice([-1, 1])) for _ in range(rng.randint(0, 3)))
            taken += self.takes(edges)
        self.assertGreater(taken, 10)


if __name__ == "__main__":
    unittest.main()
