"""The altitude of a body at a place (points 17 and 18)."""

from truealmanac.sky import latitude, longitude
from truealmanac.waves import QUARTER, wave

MILLION = 1000000


def altitude(sky, place, body):
    """The sine of the altitude of a body at a place in millionths, a quantity."""
    north, east = place
    x, s, z = coordinates(sky, body)
    turned = _turned(sky, east)
    tilt_sine = wave(sky["tilt"])
    tilt_cosine = wave(sky["tilt"] + QUARTER)
    y = ("sum", _share(s, tilt_cosine), _share(z, -tilt_sine))
    w = ("sum", _share(s, tilt_sine), _share(z, tilt_cosine))
    flat = wave(north + QUARTER)
    return (
        "sum",
        _share(_times(x, cosine(turned)), flat),
        _share(_times(y, ("wave", turned)), flat),
        _share(w, wave(north)),
    )


def coordinates(sky, body):
    """The quantities x, s and z of a body, ahead of the tilt."""
    along = longitude(sky, body)
    above = ("moved", ("turning", 0, 0, 1), latitude(sky, body))
    x = _times(cosine(above), cosine(along))
    s = _times(cosine(above), ("wave", along))
    return x, s, ("wave", above)


def cosine(a):
    """The wave of an angle expression moved by a quarter, a quantity."""
    return ("wave", ("moved", a, ("number", QUARTER)))


def _turned(sky, east):
    """The turning of the sky at a place so far east."""
    s, n, d = sky["turning"]
    return ("turning", s + east, n, d)


def _times(v, w):
    return ("product", v, w, MILLION)


def _share(v, c):
    return ("share", v, c, MILLION)
