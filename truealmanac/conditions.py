"""Conditions of the sky and the local time, and when they hold (point 73)."""

from truealmanac.contacts import nearness
from truealmanac.places import risen
from truealmanac.sky import check_body
from truealmanac.spells import both, either, joined, rest, spells_of
from truealmanac.values import value
from truealmanac.zones import local, offsets_in

DAY_LENGTH = 1440


def holds(sky, place, condition, tick):
    """True if a condition is true at a tick."""
    _check_bodies(sky, condition)
    return _is_true(sky, place, condition, tick)


def spells_when(sky, place, condition, start, end):
    """The list of the spells of a condition in a span."""
    _check_bodies(sky, condition)
    return _spells(sky, place, condition, start, end)


def observing_windows(sky, place, condition, least, start, end):
    """The list of the spells of a condition that are at least so many ticks long."""
    spells = spells_when(sky, place, condition, start, end)
    return [spell for spell in spells if spell[1] - spell[0] + 1 >= least]


def _check_bodies(sky, condition):
    """Raise SkyError for the first body of a condition that is not in the sky."""
    word = condition[0]
    if word == "above":
        check_body(sky, condition[1])
    elif word == "apart":
        check_body(sky, condition[1])
        check_body(sky, condition[2])
    elif word != "local":
        for part in condition[1:]:
            _check_bodies(sky, part)


def _is_true(sky, place, condition, tick):
    word = condition[0]
    if word == "above":
        return value(risen(sky, place, condition[1], condition[2]), tick) >= 0
    if word == "apart":
        return value(nearness(sky, condition[1], condition[2], condition[3]), tick) < 0
    if word == "local":
        return condition[2] <= local(condition[1], tick) % DAY_LENGTH <= condition[3]
    if word == "not":
        return not _is_true(sky, place, condition[1], tick)
    if word == "and":
        return _is_true(sky, place, condition[1], tick) and _is_true(sky, place, condition[2], tick)
    return _is_true(sky, place, condition[1], tick) or _is_true(sky, place, condition[2], tick)


def _spells(sky, place, condition, start, end):
    word = condition[0]
    if word == "above":
        return spells_of(risen(sky, place, condition[1], condition[2]), start, end)
    if word == "apart":
        near = spells_of(nearness(sky, condition[1], condition[2], condition[3]), start, end)
        return rest(near, start, end)
    if word == "local":
        return _local_spells(condition, start, end)
    first = _spells(sky, place, condition[1], start, end)
    if word == "not":
        return rest(first, start, end)
    second = _spells(sky, place, condition[2], start, end)
    if word == "and":
        return both(first, second)
    return either(first, second)


def _local_spells(condition, start, end):
    """The spells of ("local", zone, begin, end)."""
    found = []
    for first, last, offset in offsets_in(condition[1], start, end):
        for day in range((first + offset) // DAY_LENGTH, (last + offset) // DAY_LENGTH + 1):
            midnight = DAY_LENGTH * day - offset
            pair = (max(first, midnight + condition[2]), min(last, midnight + condition[3]))
            if pair[0] <= pair[1]:
                found.append(pair)
    return joined(found)
