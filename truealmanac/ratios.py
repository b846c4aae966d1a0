"""Fractions: pairs (n, d) in lowest terms (point 75)."""

from math import gcd

from truealmanac.errors import FractionError

DAY_SECONDS = 86400


def fraction(n, d):
    """The fraction of two numbers; raises FractionError if d is 0."""
    if d == 0:
        raise FractionError("zero")
    common = gcd(n, d) if d > 0 else -gcd(n, d)
    return (n // common, d // common)


def plus(a, b):
    """The sum of two fractions."""
    return fraction(a[0] * b[1] + b[0] * a[1], a[1] * b[1])


def minus(a, b):
    """The difference of two fractions."""
    return fraction(a[0] * b[1] - b[0] * a[1], a[1] * b[1])


def times(a, b):
    """The product of two fractions."""
    return fraction(a[0] * b[0], a[1] * b[1])


def over(a, b):
    """The quotient of two fractions; raises FractionError if the second one is zero."""
    return fraction(a[0] * b[1], a[1] * b[0])


def is_less(a, b):
    """True if the first one of two fractions is the lesser one."""
    return a[0] * b[1] < b[0] * a[1]


def moment_fraction(moment):
    """The fraction of ticks of a moment (t, a, b)."""
    t, a, b = moment
    return fraction(t * b + a, b)


def clock_text(a):
    """The time of day of a fraction of ticks, like 07:05:59."""
    seconds = a[0] * 60 // a[1] % DAY_SECONDS
    return f"{seconds // 3600:02d}:{seconds // 60 % 60:02d}:{seconds % 60:02d}"
