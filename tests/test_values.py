"""Points 5 and 6: the values of expressions."""

import random
import unittest

from truealmanac.plans import Plan
from truealmanac.values import angle_value, value
from plain import plain_value, random_angle, random_quantity

DOWN = ("turning", 0, -1, 1)


class Values(unittest.TestCase):
    def both(self, q, t):
        """The value, which must be that of the rows of a plan, too."""
        self.assertEqual(Plan(q).value(t), value(q, t))
        return value(q, t)

    def test_each_kind_of_quantity(self):
        self.assertEqual(self.both(("number", -12), 99), -12)
        self.assertEqual(self.both(("wave", ("turning", 0, 1, 1)), 324000), 1000000)
        self.assertEqual(self.both(("sum", ("number", 4)), 0), 4)
        self.assertEqual(self.both(("sum", ("number", 4), ("number", -9), ("number", 1)), 0), -4)
        self.assertEqual(self.both(("share", ("number", 7), 3, 2), 0), 10)
        self.assertEqual(self.both(("product", ("number", 7), ("number", 5), 3), 0), 11)
        self.assertEqual(self.both(("later", ("wave", ("turning", 0, 1, 1)), 100), 323900), 1000000)

    def test_rounding_down(self):
        self.assertEqual(self.both(("share", ("number", -7), 3, 2), 0), -11)
        self.assertEqual(self.both(("share", ("number", 7), -3, 2), 0), -11)
        self.assertEqual(self.both(("share", ("number", -1), 1, 10 ** 12), 0), -1)
        self.assertEqual(self.both(("product", ("number", -7), ("number", 5), 3), 0), -12)
        self.assertEqual(self.both(("product", ("number", -7), ("number", -5), 3), 0), 11)
        self.assertEqual(angle_value(("turning", 10, 3, 2), -1), 8)
        self.assertEqual(angle_value(("turning", 10, -3, 2), 1), 8)
        self.assertEqual(angle_value(("turning", 10, 3, 2), 1), 11)

    def test_product_comes_first(self):
        self.assertEqual(angle_value(("turning", 0, 5, 10), 3), 1)
        self.assertEqual(self.both(("share", ("number", 3), 5, 10), 0), 1)

    def test_each_kind_of_angle(self):
        self.assertEqual(angle_value(("turning", -5, 60, 1), 10), 595)
        self.assertEqual(angle_value(("moved", DOWN, ("number", 12)), 2), 10)
        self.assertEqual(angle_value(("minus", ("turning", 1, 7, 1), ("turning", 2, 3, 1)), 10), 39)
        self.assertEqual(angle_value(("moved", DOWN, ("later", ("wave", DOWN), -324000)), 0), 1000000)

    def test_later_of_later(self):
        q = ("later", ("sum", ("later", ("wave", ("turning", 3, 7, 2)), -4), ("wave", ("turning", 3, 7, 2))), 9)
        for t in (-5, 0, 11):
            self.assertEqual(self.both(q, t), plain_value(q, t))

    def test_random_expressions(self):
        rng = random.Random(6)
        for _ in range(400):
            q = random_quantity(rng, 6)
            a = random_angle(rng, 5)
            for t in (0, rng.randint(-10 ** 9, 10 ** 9), rng.choice([-10 ** 9, 10 ** 9])):
                self.assertEqual(self.both(q, t), plain_value(q, t))
                self.assertEqual(angle_value(a, t), plain_value(a, t))


if __name__ == "__main__":
    unittest.main()
