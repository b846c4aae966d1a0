"""Points 5 and 6: the forms of expressions."""

import random
import unittest

from truealmanac.quantities import is_angle, is_quantity
from plain import random_angle, random_quantity

TOP = 10 ** 12
ONE = ("number", 1)
ANGLE = ("turning", 1, 2, 3)
QUANTITIES = [
    ("number", 5), ("wave", ANGLE), ("sum", ONE), ("sum", ONE, ("wave", ANGLE), ONE, ("sum", ONE)),
    ("share", ONE, 2, 3), ("product", ONE, ("wave", ANGLE), 4), ("later", ONE, -7),
]
ANGLES = [ANGLE, ("moved", ANGLE, ONE), ("minus", ANGLE, ("moved", ANGLE, ONE))]


def nested(inner, layers):
    """The quantity with so many layers around an inner quantity."""
    for k in range(layers):
        inner = [("sum", inner), ("share", inner, 1, 1), ("later", inner, 0), ("product", ONE, inner, 1)][k % 4]
    return inner


def nested_angle(layers):
    inner = ANGLE
    for k in range(layers):
        inner = [("moved", inner, ONE), ("minus", inner, ANGLE), ("minus", ANGLE, inner)][k % 3]
    return inner


class Forms(unittest.TestCase):
    def test_each_kind(self):
        for q in QUANTITIES:
            self.assertIs(is_quantity(q), True, q)
            self.assertIs(is_angle(q), False, q)
        for a in ANGLES:
            self.assertIs(is_angle(a), True, a)
            self.assertIs(is_quantity(a), False, a)

    def test_random_expressions(self):
        rng = random.Random(5)
        for _ in range(300):
            self.assertIs(is_quantity(random_quantity(rng, 6)), True)
            self.assertIs(is_angle(random_angle(rng, 6)), True)

    def test_too_many_and_too_few_parts(self):
        for q in QUANTITIES:
            if q[0] != "sum":
                self.assertFalse(is_quantity(q[:-1]), q)
                self.assertFalse(is_quantity((*q, 1)), q)
                self.assertFalse(is_quantity((*q, ONE)), q)
        for a in ANGLES:
            self.assertFalse(is_angle(a[:-1]), a)
            self.assertFalse(is_angle((*a, 1)), a)
            self.assertFalse(is_angle((*a, ANGLE)), a)
        self.assertFalse(is_quantity(("sum",)))
        self.assertFalse(is_quantity(("sum", ONE, 1)))

    def test_things_that_are_none(self):
        for thing in [(), ((),), ("",), ("number",), ("odd", 1), ("Number", 1), (1,), (1, 2), (ONE,), (ONE, 1),
                      ("angle", 1, 2, 3), ("sum", ()), ("sum", "number"), ("wave", "turning"),
                      ("number", "1"), ("number", ()), ("number", ONE), ("turning", 1, 2, "3"), ("turning", ONE, 1, 1)]:
            self.assertIs(is_quantity(thing), False, thing)
            self.assertIs(is_angle(thing), False, thing)

    def test_the_other_kind_of_expression(self):
        for thing in [("wave", ONE), ("sum", ANGLE), ("sum", ONE, ANGLE), ("share", ANGLE, 1, 1), ("later", ANGLE, 1),
                      ("product", ANGLE, ONE, 1), ("product", ONE, ANGLE, 1)]:
            self.assertFalse(is_quantity(thing), thing)
        for thing in [("moved", ONE, ONE), ("moved", ANGLE, ANGLE), ("minus", ANGLE, ONE), ("minus", ONE, ANGLE)]:
            self.assertFalse(is_angle(thing), thing)

    def test_a_fault_deep_inside(self):
        self.assertFalse(is_quantity(nested(("number", True), 6)))
        self.assertFalse(is_quantity(("sum", ONE, ("wave", ("moved", ANGLE, ("share", ONE, 1, 0))))))


class Numbers(unittest.TestCase):
    def places(self):
        """Each place of a number: the test, and what makes the thing from the number."""
        yield is_quantity, lambda n: ("number", n), -TOP
        yield is_quantity, lambda n: ("share", ONE, n, 1), -TOP
        yield is_quantity, lambda n: ("share", ONE, 1, n), 1
        yield is_quantity, lambda n: ("product", ONE, ONE, n), 1
        yield is_quantity, lambda n: ("later", ONE, n), -TOP
        yield is_angle, lambda n: ("turning", n, 1, 1), -TOP
        yield is_angle, lambda n: ("turning", 1, n, 1), -TOP
        yield is_angle, lambda n: ("turning", 1, 1, n), 1

    def test_bounds(self):
        for test, made, low in self.places():
            for n in (low, low + 1, 1, TOP - 1, TOP):
                self.assertIs(test(made(n)), True, made(n))
            for n in (low - 1, TOP + 1, low - TOP, 3 * TOP):
                self.assertIs(test(made(n)), False, made(n))

    def test_true_and_false_are_no_numbers(self):
        for test, made, _ in self.places():
            self.assertIs(test(made(True)), False, made(True))
            self.assertIs(test(made(False)), False, made(False))


class Depth(unittest.TestCase):
    def test_twenty_and_twenty_one(self):
        self.assertTrue(is_quantity(nested(ONE, 19)))
        self.assertFalse(is_quantity(nested(ONE, 20)))
        self.assertTrue(is_angle(nested_angle(19)))
        self.assertFalse(is_angle(nested_angle(20)))

    def test_both_kinds_count(self):
        self.assertTrue(is_quantity(("wave", nested_angle(18))))
        self.assertFalse(is_quantity(("wave", nested_angle(19))))
        self.assertTrue(is_angle(("moved", ANGLE, nested(ONE, 18))))
        self.assertFalse(is_angle(("moved", ANGLE, nested(ONE, 19))))

    def test_the_deepest_part_counts(self):
        self.assertTrue(is_quantity(("sum", ONE, nested(ONE, 18), ONE)))
        self.assertFalse(is_quantity(("sum", ONE, nested(ONE, 19), ONE)))

    def test_very_deep(self):
        self.assertFalse(is_quantity(nested(ONE, 5000)))
        self.assertFalse(is_angle(nested_angle(5000)))


if __name__ == "__main__":
    unittest.main()
