"""Searching the longest cell that is sure."""

from truealmanac.reaches import reach


class Ladder:
    """The reaches of a quantity that are known so far: a rung is a number of ticks and its reach.

    Reaches ascend with the number of ticks and nearly do so in a straight line. So a few new rungs
    suffice for a search, and later searches need still fewer.
    """

    def __init__(self, q):
        self._q = q
        self._steps = [0]
        self._reaches = [reach(q, 0)]

    def longest(self, limit, room):
        """The greatest number of ticks up to room whose reach is at most the limit (at least 0)."""
        self._climb(limit, room)
        at = self._highest(limit)
        halve = False
        while self._steps[at] < room and self._steps[at + 1] - self._steps[at] > 1:
            # Guesses on the straight line alone could come near from one side very slowly.
            if halve:
                guess = (self._steps[at] + self._steps[at + 1]) // 2
            else:
                guess = self._guess(at, limit)
            halve = not halve
            if self._add(at + 1, guess) <= limit:
                at = at + 1
        return min(self._steps[at], room)

    def _climb(self, limit, room):
        """Add rungs at the top until one is beyond the limit or not below the room."""
        while self._reaches[-1] <= limit and self._steps[-1] < room:
            self._add(len(self._steps), min(room, 2 * self._steps[-1] + 1))

    def _highest(self, limit):
        """The index of the highest rung whose reach is at most the limit."""
        low = 0
        high = len(self._reaches)
        while high - low > 1:
            middle = (low + high) // 2
            if self._reaches[middle] <= limit:
                low = middle
            else:
                high = middle
        return low

    def _guess(self, at, limit):
        """Where the straight line between two rungs meets the limit, rounded into the space between them."""
        space = self._steps[at + 1] - self._steps[at]
        rise = self._reaches[at + 1] - self._reaches[at]
        return self._steps[at] + max(1, (limit - self._reaches[at]) * space // rise)

    def _add(self, at, k):
        """Add the rung for k ticks at an index; return its reach."""
        far = reach(self._q, k)
        self._steps.insert(at, k)
        self._reaches.insert(at, far)
        return far
