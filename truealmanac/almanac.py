"""Wishes, almanacs and the next event (points 39 and 41)."""

from truealmanac.errors import SkyError
from truealmanac.events import eclipses, meetings, nodes, phases, risings, seasons
from truealmanac.stretches import stretches
from truealmanac.tides import is_port, tides
from truealmanac.zones import OFFSET_LIMIT, check_zone, local

DAY_LENGTH = 1440
FIRST_STRETCH = 2880


def wish_events(sky, place, wish, start, end):
    """The list of the events of a wish in a span."""
    word = wish[0]
    if word == "risings":
        return risings(sky, place, wish[1], wish[2], start, end)
    if word == "seasons":
        return seasons(sky, wish[1], start, end)
    if word == "phases":
        return phases(sky, wish[1], wish[2], start, end)
    if word == "meetings":
        return meetings(sky, wish[1], wish[2], start, end)
    if word == "nodes":
        return nodes(sky, wish[1], start, end)
    if word == "eclipses":
        return eclipses(sky, wish[1], wish[2], wish[3], wish[4], start, end)
    return _port_events(wish[1], start, end)


def almanac(sky, place, zone, wishes, first, last):
    """The entries (day, rows) of the days from first to last."""
    check_zone(zone)
    # A local day can begin and end up to the greatest offset sooner or later than the day of ticks.
    begin = first * DAY_LENGTH - OFFSET_LIMIT
    end = (last + 1) * DAY_LENGTH + OFFSET_LIMIT
    found = []
    for wish in wishes:
        # The changes in a span are behind its first tick.
        found.extend(wish_events(sky, place, wish, begin - 1, end))
    rows = {day: [] for day in range(first, last + 1)}
    for tick, kind, names in sorted(set(found)):
        day, minute = divmod(local(zone, tick), DAY_LENGTH)
        if day in rows:
            rows[day].append((minute, kind, names))
    return [(day, rows[day]) for day in range(first, last + 1)]


def next_event(sky, place, wish, tick, limit):
    """The least event of a wish behind a tick and at most `limit` ticks behind it, or None."""
    for begin, end in stretches(tick, tick + limit, FIRST_STRETCH):
        found = wish_events(sky, place, wish, begin, end)
        if len(found) > 0:
            return found[0]
    return None


def _port_events(port, start, end):
    if not is_port(port):
        raise SkyError("port", port[0])
    return tides(port, start, end)
