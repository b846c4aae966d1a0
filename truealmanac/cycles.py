"""The next day that has its place in several cycles of days (point 69)."""

from math import lcm


def next_of_all(pairs, day):
    """The least day from a given one on that has its place in each cycle (length, place), or None."""
    found = day
    step = 1
    for length, place in pairs:
        # The days that are left are found, found + step and so on. Behind `length` of them their
        # places in this cycle come again.
        tries = [found + step * k for k in range(length)]
        fitting = [tried for tried in tries if tried % length == place]
        if len(fitting) == 0:
            return None
        found = fitting[0]
        step = lcm(step, length)
    return found
