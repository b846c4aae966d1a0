"""The directions of bodies and their altitude at a place (points 17, 18 and 20)."""

from truealmanac.sky import latitude, longitude
from truealmanac.waves import QUARTER, wave

MILLION = 1000000


def altitude(sky, place, body):
    """The sine of the altitude of a body at a place in millionths, a quantity."""
    x, y, w = equator_coordinates(sky, body)
    turning = turned(sky, place)
    north = place[0]
    flat = wave(north + QUARTER)
    return (
        "sum",
        share_of(product_of(x, cosine(turning)), flat),
        share_of(product_of(y, ("wave", turning)), flat),
        share_of(w, wave(north)),
    )


def risen(sky, place, body, height):
    """The quantity that is up while the altitude of a body is at least the wave of a height."""
    return ("sum", altitude(sky, place, body), ("number", -wave(height)))


def coordinates(sky, body):
    """The quantities x, s and z of a body, ahead of the tilt."""
    along = longitude(sky, body)
    above = ("moved", ("turning", 0, 0, 1), latitude(sky, body))
    x = product_of(cosine(above), cosine(along))
    s = product_of(cosine(above), ("wave", along))
    return x, s, ("wave", above)


def equator_coordinates(sky, body):
    """The quantities x, y and w of a body, behind the tilt."""
    x, s, z = coordinates(sky, body)
    tilt_sine = wave(sky["tilt"])
    tilt_cosine = wave(sky["tilt"] + QUARTER)
    y = ("sum", share_of(s, tilt_cosine), share_of(z, -tilt_sine))
    w = ("sum", share_of(s, tilt_sine), share_of(z, tilt_cosine))
    return x, y, w


def turned(sky, place):
    """The turning of the sky at a place, an angle expression."""
    s, n, d = sky["turning"]
    return ("turning", s + place[1], n, d)


def cosine(a):
    """The wave of an angle expression moved by a quarter, a quantity."""
    return ("wave", ("moved", a, ("number", QUARTER)))


def product_of(v, w):
    """The product of two quantities in millionths."""
    return ("product", v, w, MILLION)


def share_of(v, c):
    """So many millionths of a quantity."""
    return ("share", v, c, MILLION)


def minus_of(v):
    """The negative of a quantity."""
    return ("share", v, -1, 1)
