"""Angles and their waves (point 4)."""

TURN = 1296000
HALF_TURN = 648000
QUARTER = 324000

# Point 4 divides 1000000 times a product by 2 * q * q * q. Both are divisible by 1000000, so the
# quotient is the same without that factor, and the numbers stay small.
ARCH_TOP = 314928000000
ARCH_SCALE = 68024448000


def arch(u):
    """The arch of a number from 0 to a quarter, in millionths."""
    return u * (ARCH_TOP - u * u) // ARCH_SCALE


def wave(x):
    """The wave of an angle, in millionths."""
    r = x % TURN
    if r < QUARTER:
        return arch(r)
    if r < HALF_TURN:
        return arch(HALF_TURN - r)
    if r < HALF_TURN + QUARTER:
        return -arch(r - HALF_TURN)
    return -arch(TURN - r)
