"""Clocks that are known within bounds, and what sources of the time agree on (points 50 and 51)."""

RATE_SCALE = 1000000
BEGINS = 0
ENDS = 1


def agreement(sources, f):
    """The least and the greatest number that all sources but f have, at least one of them; None if there is none."""
    needed = max(1, len(sources) - f)
    # At one number sources begin before others end, since both have it.
    marks = [(low, BEGINS) for low, _ in sources] + [(high, ENDS) for _, high in sources]
    least = None
    greatest = None
    many = 0
    for number, kind in sorted(marks):
        if kind == BEGINS:
            many = many + 1
            if many >= needed and least is None:
                least = number
        else:
            if many >= needed:
                greatest = number
            many = many - 1
    if least is None:
        return None
    return (least, greatest)


class KeptClock:
    """A clock that counts by itself and now and then hears sources."""

    def __init__(self, rate, low, high):
        self._rate = rate
        self._low = low
        self._high = high

    def known(self):
        """The pair (low, high) that contains the time."""
        return (self._low, self._high)

    def count(self, d):
        """The clock's own count has grown by d."""
        # Rounded up.
        error = -(-d * self._rate // RATE_SCALE)
        self._low = self._low + d - error
        self._high = self._high + d + error

    def hear(self, sources, f):
        """True if the pair was met with the agreement of some sources, of which f may be wrong."""
        agreed = agreement(sources, f)
        if agreed is None:
            return False
        low = max(self._low, agreed[0])
        high = min(self._high, agreed[1])
        if low > high:
            return False
        self._low = low
        self._high = high
        return True
