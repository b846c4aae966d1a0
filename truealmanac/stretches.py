"""Searching from near to far."""


def stretches(begin, end, size):
    """Pairs of numbers that lead from begin to end, each from where the one before ends.

    The first one is `size` long and each other one twice as long as the one before. So a search that
    stops where it has found something seldom goes much further than it must.
    """
    found = []
    while begin < end:
        stop = min(end, begin + size)
        found.append((begin, stop))
        begin = stop
        size = 2 * size
    return found
