"""Points 12, 13 and 27: moments, passings and the time up."""

import random
import unittest

from truealmanac.finder import changes, moment, passings, time_up
from plain import plain_passings, plain_time_up, plain_value, random_angle, random_quantity

HILL = ("sum", ("wave", ("turning", 0, 1296000, 97)), ("number", 123456))
FORWARDS = ("turning", 100, 7000, 1)
BACKWARDS = ("turning", 100, -7000, 1)
# Goes on slowly, and with its wave back and forth.
TURNING_BACK = ("moved", ("turning", 0, 3000, 1), ("share", ("wave", ("turning", 9, 20000, 1)), 300000, 1000000))


class Moments(unittest.TestCase):
    def test_told_moments(self):
        q = ("sum", ("share", ("wave", ("turning", 0, 324000, 1)), 3, 1000000), ("number", -1))
        self.assertEqual(changes(q, 0, 4), [(1, "up"), (2, "down")])
        self.assertEqual(moment(q, 1), (0, 1, 3))
        self.assertEqual(moment(q, 2), (1, 2, 3))

    def test_a_value_of_zero(self):
        square = ("wave", ("turning", 0, 324000, 1))
        self.assertEqual(moment(square, 3), (2, 0, 1000000))
        self.assertEqual(moment(square, 4), (3, 1000000, 1000000))
        self.assertEqual(moment(square, -1), (-2, 0, 1000000))

    def test_changes_up_and_down(self):
        rng = random.Random(12)
        sides = set()
        for q in [HILL] + [random_quantity(rng, 5) for _ in range(200)]:
            for t, side in changes(q, -100, 200):
                before, now = plain_value(q, t - 1), plain_value(q, t)
                self.assertEqual(moment(q, t), (t - 1, abs(before), abs(before) + abs(now)))
                sides.add(side)
        self.assertEqual(sides, {"up", "down"})


class Passings(unittest.TestCase):
    def test_forwards_and_backwards(self):
        self.assertEqual(passings(FORWARDS, 0, 400), [(186, 1), (371, 1)])
        self.assertEqual(passings(BACKWARDS, 0, 400), [(1, -1), (186, -1), (371, -1)])

    def test_the_half_turn_is_none(self):
        self.assertEqual(passings(("turning", 647000, 100, 1), 0, 100), [])
        self.assertEqual(passings(("turning", 649000, -100, 1), 0, 100), [])
        self.assertEqual(passings(("turning", -1000, 100, 1), 0, 100), [(10, 1)])
        self.assertEqual(passings(("turning", -1000, 100, 1), 9, 10), [(10, 1)])
        self.assertEqual(passings(("turning", -1000, 100, 1), 10, 100), [])
        self.assertEqual(passings(("turning", 1000, -100, 1), 0, 100), [(11, -1)])

    def test_an_angle_that_turns_back(self):
        found = passings(TURNING_BACK, 0, 3000)
        self.assertEqual(found, plain_passings(TURNING_BACK, 0, 3000))
        self.assertEqual({way for _, way in found}, {1, -1})

    def test_a_quarter_ahead_must_be_above_zero(self):
        # A leap from 0 to a half turn, and one to a quarter: neither is a passing.
        leap = ("moved", ("turning", 0, 0, 1), ("share", ("wave", ("turning", 0, 324000, 1)), 324000, 1000000))
        self.assertEqual(plain_passings(leap, 0, 40), passings(leap, 0, 40))
        self.assertEqual(passings(leap, 0, 4), [(4, 1)])

    def test_against_every_tick(self):
        rng = random.Random(13)
        for _ in range(250):
            a = random_angle(rng, 5)
            start = rng.randint(-5000, 5000)
            end = start + rng.choice([0, 1, 300])
            self.assertEqual(passings(a, start, end), plain_passings(a, start, end), a)


class TimeUp(unittest.TestCase):
    def test_told_times(self):
        square = ("wave", ("turning", 0, 324000, 1))
        self.assertEqual(time_up(square, 0, 3), 3)
        self.assertEqual(time_up(square, 3, 3), 0)
        self.assertEqual(time_up(square, 2, 2), 1)
        self.assertEqual(time_up(("number", 0), -5, 600000), 600006)
        self.assertEqual(time_up(("number", -1), -5, 600000), 0)

    def test_against_every_tick(self):
        rng = random.Random(27)
        for q in [HILL] + [random_quantity(rng, 5) for _ in range(250)]:
            start = rng.randint(-5000, 5000)
            end = start + rng.choice([0, 1, 300])
            self.assertEqual(time_up(q, start, end), plain_time_up(q, start, end), q)


if __name__ == "__main__":
    unittest.main()
