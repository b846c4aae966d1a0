"""How large quantities become, and how far they go in some ticks (points 7 and 8)."""

WAVE_MOST = 1000000


def most(q):
    """A number that no value of a quantity exceeds in size."""
    return _most_and_reach(q, 0)[0]


def reach(q, k):
    """A bound on the difference of two values at most k ticks from each other."""
    return _most_and_reach(q, k)[1]


def angle_reach(a, k):
    """The same bound for an angle expression."""
    if a[0] == "turning":
        return _rounded_up(abs(a[2]) * k, a[3])
    if a[0] == "moved":
        return angle_reach(a[1], k) + reach(a[2], k)
    return angle_reach(a[1], k) + angle_reach(a[2], k)


def _rounded_up(n, d):
    return -(-n // d)


def _most_and_reach(q, k):
    """Both bounds at once: a product needs the mosts at each depth again."""
    top, far = _uncapped(q, k)
    return top, min(far, 2 * top)


def _uncapped(q, k):
    word = q[0]
    if word == "number":
        return abs(q[1]), 0
    if word == "wave":
        return WAVE_MOST, _wave_reach(angle_reach(q[1], k))
    if word == "sum":
        parts = [_most_and_reach(v, k) for v in q[1:]]
        return sum([part[0] for part in parts]), sum([part[1] for part in parts])
    top, far = _most_and_reach(q[1], k)
    if word == "share":
        size = abs(q[2])
        return _rounded_up(top * size, q[3]), _rounded_up(far * size, q[3])
    if word == "product":
        other_top, other_far = _most_and_reach(q[2], k)
        return _rounded_up(top * other_top, q[3]), _rounded_up(top * other_far + other_top * far, q[3])
    return top, far


def _wave_reach(far):
    if far == 0:
        return 0
    return 125 * far // 27 + 1
