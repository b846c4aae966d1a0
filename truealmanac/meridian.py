"""The east and the south of bodies, and when they are in the meridian (point 46)."""

from truealmanac.finder import changes
from truealmanac.places import cosine, equator_coordinates, minus_of, product_of, turned
from truealmanac.values import value


def east(sky, place, body):
    """How far east a body is at a place, a quantity."""
    x, y, _ = equator_coordinates(sky, body)
    turning = turned(sky, place)
    return ("sum", product_of(y, cosine(turning)), minus_of(product_of(x, ("wave", turning))))


def south(sky, place, body):
    """How far south a body is at a place, a quantity."""
    x, y, _ = equator_coordinates(sky, body)
    turning = turned(sky, place)
    return ("sum", product_of(x, cosine(turning)), product_of(y, ("wave", turning)))


def meridian(sky, place, body, start, end):
    """The events "noon" and "mid" of a body at a place in a span."""
    southward = south(sky, place, body)
    found = []
    for t, side in changes(east(sky, place, body), start, end):
        w = value(southward, t)
        if side == "down" and w > 0:
            found.append((t, "noon", (body,)))
        if side == "up" and w < 0:
            found.append((t, "mid", (body,)))
    return found
