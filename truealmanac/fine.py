"""Finer ticks (point 61)."""

from truealmanac.finder import changes


def finer(q, m):
    """The quantity whose value at the tick m * t is that of q at t."""
    word = q[0]
    if word == "number":
        return q
    if word == "wave":
        return (word, _finer_angle(q[1], m))
    if word == "sum":
        return (word, *[finer(v, m) for v in q[1:]])
    if word == "share":
        return (word, finer(q[1], m), q[2], q[3])
    if word == "product":
        return (word, finer(q[1], m), finer(q[2], m), q[3])
    return (word, finer(q[1], m), q[2] * m)


def fine_moments(q, t, m):
    """The list of the fine moments of a change of a quantity at the tick t."""
    return [u for u, _ in changes(finer(q, m), m * (t - 1), m * t)]


def _finer_angle(a, m):
    word = a[0]
    if word == "turning":
        return (word, a[1], a[2], a[3] * m)
    if word == "moved":
        return (word, _finer_angle(a[1], m), finer(a[2], m))
    return (word, _finer_angle(a[1], m), _finer_angle(a[2], m))
