"""Weeks of hours: when something is open (point 70)."""

from truealmanac.calendars import weekday
from truealmanac.ordered import last_up_to
from truealmanac.zones import OFFSET_LIMIT, local, ticks_of

DAY_LENGTH = 1440
FARTHEST = 20000


def is_open(week, closed, time):
    """True if a week of hours is open at a local time."""
    day, minute = divmod(time, DAY_LENGTH)
    if _is_closed(closed, day):
        return False
    moment = DAY_LENGTH * weekday(day) + minute
    return any([begin <= moment < end for begin, end in week])


def open_minutes(week, closed, day):
    """The number of the minutes of a local day at which a week of hours is open."""
    if _is_closed(closed, day):
        return 0
    first = DAY_LENGTH * weekday(day)
    behind = first + DAY_LENGTH
    return sum([max(0, min(end, behind) - max(begin, first)) for begin, end in week])


def next_turn(week, closed, zone, tick):
    """The least tick behind a tick at which a week of hours opens or closes, or None."""
    for t in _possible_turns(week, zone, tick):
        if is_open(week, closed, local(zone, t)) != is_open(week, closed, local(zone, t - 1)):
            return t
    return None


def _is_closed(closed, day):
    at = last_up_to(closed, day)
    return at >= 0 and closed[at] == day


def _possible_turns(week, zone, tick):
    """The ascending list of the ticks behind a tick that begin something: hours, a pause, a day or an offset."""
    last = tick + FARTHEST
    found = [t for t, _ in zone[1] if tick < t <= last]
    for time in _edges(week, tick - OFFSET_LIMIT, last + OFFSET_LIMIT):
        found.extend([t for t in ticks_of(zone, time) if tick < t <= last])
    return sorted(found)


def _edges(week, first, last):
    """The local times, from those of the day of the first one to those of the last one, that are edges of the week.

    Each midnight is one, since single days are closed.
    """
    times = []
    for day in range(first // DAY_LENGTH, last // DAY_LENGTH + 1):
        begin = DAY_LENGTH * day
        times.append(begin)
        monday = begin - DAY_LENGTH * weekday(day)
        for minute in [edge for pair in week for edge in pair]:
            if begin < monday + minute < begin + DAY_LENGTH:
                times.append(monday + minute)
    return times
