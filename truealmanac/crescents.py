"""Young moons: the first evenings on which a new moon is seen (point 47)."""

from truealmanac.events import forward_ticks
from truealmanac.finder import changes
from truealmanac.places import risen
from truealmanac.sky import elongation
from truealmanac.stretches import stretches
from truealmanac.values import angle_value, value
from truealmanac.waves import HALF_TURN, TURN

FIRST_STRETCH = 5760


def young_moons(sky, place, moon, sun, height, moon_height, angle, start, end):
    """The events "young" of the moon and the sun at a place in a span."""
    apart = elongation(sky, moon, sun)
    moon_up = risen(sky, place, moon, moon_height)
    sun_up = risen(sky, place, sun, height)
    new_moons = forward_ticks(apart, 0, start, end)
    found = []
    for new, after in zip(new_moons, [*new_moons[1:], end + 1]):
        t = _young_tick(sun_up, moon_up, apart, angle, new, after - 1)
        if t is not None:
            found.append((t, "young", (moon, sun)))
    return found


def _young_tick(sun_up, moon_up, apart, angle, begin, end):
    """The least tick in a span at which the sun sets and the moon can be seen, or None."""
    for first, last in stretches(begin, end, FIRST_STRETCH):
        for t, side in changes(sun_up, first, last):
            is_seen = side == "down" and value(moon_up, t) >= 0
            if is_seen and angle <= angle_value(apart, t) % TURN <= HALF_TURN:
                return t
    return None
