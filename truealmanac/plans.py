"""Quantities laid out in rows, for values at many ticks."""

from truealmanac.waves import wave


class Plan:
    """A quantity as a list of rows, each of which only needs rows above it.

    Equal parts of the quantity share one row: an altitude needs the longitude of its body three
    times and the latitude five times. Each row is a tuple of five: a word and what it needs.
    """

    def __init__(self, q):
        self._rows = []
        self._indexes = {}
        self._last = self._add_quantity(q, 0)

    def value(self, t):
        """The value of the quantity at a tick."""
        out = []
        for word, a, b, d, e in self._rows:
            if word == "wave":
                out.append(wave(out[a]))
            elif word == "turning":
                out.append(a + (b * t + e) // d)
            elif word == "share":
                out.append(out[a] * b // d)
            elif word == "sum":
                out.append(sum([out[at] for at in a]))
            elif word == "product":
                out.append(out[a] * out[b] // d)
            elif word == "minus":
                out.append(out[a] - out[b])
            else:
                out.append(a)
        return out[self._last]

    def _add_quantity(self, q, later):
        """Add the rows of a quantity that is told `later` ticks later; return the index of its own."""
        word = q[0]
        if word == "later":
            return self._add_quantity(q[1], later + q[2])
        if word == "number":
            return self._index_of((word, q[1], 0, 1, 0))
        if word == "wave":
            return self._index_of((word, self._add_angle(q[1], later), 0, 1, 0))
        if word == "sum":
            return self._index_of((word, tuple([self._add_quantity(v, later) for v in q[1:]]), 0, 1, 0))
        first = self._add_quantity(q[1], later)
        if word == "share":
            return self._index_of((word, first, q[2], q[3], 0))
        return self._index_of((word, first, self._add_quantity(q[2], later), q[3], 0))

    def _add_angle(self, a, later):
        word = a[0]
        if word == "turning":
            return self._index_of((word, a[1], a[2], a[3], a[2] * later))
        first = self._add_angle(a[1], later)
        if word == "moved":
            return self._index_of(("sum", (first, self._add_quantity(a[2], later)), 0, 1, 0))
        return self._index_of((word, first, self._add_angle(a[2], later), 1, 0))

    def _index_of(self, row):
        """The index of a row, which is added if it is new."""
        if row not in self._indexes:
            self._indexes[row] = len(self._rows)
            self._rows.append(row)
        return self._indexes[row]
