"""Risings, seasons, phases, meetings, nodes and eclipses (points 19 to 25, 27 and 28)."""

from truealmanac.finder import changes, passings
from truealmanac.places import risen
from truealmanac.sky import elongation, latitude, longitude
from truealmanac.values import value
from truealmanac.waves import QUARTER


def risings(sky, place, body, height, start, end):
    """The events "rise" and "set" of a body at a place."""
    return change_events(risen(sky, place, body, height), "rise", "set", (body,), start, end)


def seasons(sky, body, start, end):
    """The events "season0" to "season3" and "back0" to "back3" of a body."""
    return _quarter_events(longitude(sky, body), "season", "back", (body,), start, end)


def phases(sky, moon, sun, start, end):
    """The events "phase0" to "phase3" and "wane0" to "wane3" of the moon and the sun."""
    return _quarter_events(elongation(sky, moon, sun), "phase", "wane", (moon, sun), start, end)


def meetings(sky, first, second, start, end):
    """The events "meet" and "oppose" of two bodies."""
    apart = elongation(sky, first, second)
    names = (first, second)
    met = [(t, "meet", names) for t, _ in passings(apart, start, end)]
    return sorted(met + [(t, "oppose", names) for t, _ in _quarter_passings(apart, 2, start, end)])


def nodes(sky, body, start, end):
    """The events "north" and "south" of a body."""
    return change_events(latitude(sky, body), "north", "south", (body,), start, end)


def eclipses(sky, moon, sun, solar, lunar, start, end):
    """The events "solar" and "lunar" of the moon and the sun, for limits of the latitude."""
    apart = elongation(sky, moon, sun)
    above = latitude(sky, moon)
    found = []
    for kind, k, limit in (("solar", 0, solar), ("lunar", 2, lunar)):
        for t in forward_ticks(apart, k, start, end):
            if abs(value(above, t)) <= limit:
                found.append((t, kind, (moon, sun)))
    return sorted(found)


def forward_ticks(a, k, start, end):
    """The ticks at which an angle expression passes k quarters forwards."""
    return [t for t, way in _quarter_passings(a, k, start, end) if way == 1]


def change_events(q, up, down, names, start, end):
    """An event with the word `up` or `down` for each change of a quantity in a span."""
    return [(t, up if side == "up" else down, names) for t, side in changes(q, start, end)]


def _quarter_passings(a, k, start, end):
    return passings(("moved", a, ("number", -QUARTER * k)), start, end)


def _quarter_events(a, forwards, backwards, names, start, end):
    """The events of an angle expression that passes quarters; k is added to the words."""
    found = []
    for k in range(4):
        for t, way in _quarter_passings(a, k, start, end):
            word = forwards if way == 1 else backwards
            found.append((t, word + str(k), names))
    return sorted(found)
