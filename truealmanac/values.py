"""The values of quantities and angle expressions (points 5 and 6)."""

from truealmanac.waves import wave


def value(q, t):
    """The value of a quantity at a tick."""
    word = q[0]
    if word == "number":
        return q[1]
    if word == "wave":
        return wave(angle_value(q[1], t))
    if word == "sum":
        return sum([value(v, t) for v in q[1:]])
    if word == "share":
        return value(q[1], t) * q[2] // q[3]
    if word == "product":
        return value(q[1], t) * value(q[2], t) // q[3]
    return value(q[1], t + q[2])


def angle_value(a, t):
    """The value of an angle expression at a tick."""
    word = a[0]
    if word == "turning":
        return a[1] + a[2] * t // a[3]
    if word == "moved":
        return angle_value(a[1], t) + value(a[2], t)
    return angle_value(a[1], t) - angle_value(a[2], t)
