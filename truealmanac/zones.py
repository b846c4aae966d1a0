"""Zones: local times (points 35, 36 and 37)."""

from truealmanac.bounds import within
from truealmanac.calendars import day_of, months_of, weekday
from truealmanac.errors import ZoneError

MOST_CHANGES = 400
OFFSET_LIMIT = 1500


def check_zone(zone):
    """Raise ZoneError if a zone is none."""
    offset, changes = zone
    if len(changes) > MOST_CHANGES:
        raise ZoneError("size")
    for told in [offset] + [later for _, later in changes]:
        if not within(told, -OFFSET_LIMIT, OFFSET_LIMIT):
            raise ZoneError("offset")
    for before, change in zip(changes, changes[1:]):
        if change[0] <= before[0]:
            raise ZoneError("order")


def local(zone, tick):
    """The local time of a tick."""
    offset, changes = zone
    low = 0
    high = len(changes)
    while low < high:
        middle = (low + high) // 2
        if changes[middle][0] <= tick:
            low = middle + 1
        else:
            high = middle
    if low > 0:
        offset = changes[low - 1][1]
    return tick + offset


def ticks_of(zone, time):
    """The ascending list of all ticks that have a local time."""
    offset, changes = zone
    found = []
    begin = None
    for end, later in (*changes, (None, 0)):
        tick = time - offset
        if (begin is None or begin <= tick) and (end is None or tick < end):
            found.append(tick)
        begin = end
        offset = later
    return found


def offsets_in(zone, start, end):
    """A span cut at the changes of a zone: the list of tuples (start, end, offset)."""
    offset, changes = zone
    found = []
    begin = start
    for change, later in changes:
        if change > end:
            break
        if change > begin:
            found.append((begin, change - 1, offset))
            begin = change
        offset = later
    found.append((begin, end, offset))
    return found


def ruled_zone(offset, rules, first, last):
    """The zone of rules for the years from first to last; raises ZoneError if it is none."""
    changes = []
    for year in range(first, last + 1):
        changes.extend([(_rule_tick(rule, year), rule[4]) for rule in rules])
    zone = (offset, tuple(sorted(changes)))
    check_zone(zone)
    return zone


def _rule_tick(rule, year):
    """The tick of the change of a rule in a year."""
    month, week, wanted, minute, _ = rule
    begin = day_of("gregorian", (year, month, 1))
    day = begin + (wanted - weekday(begin)) % 7 + 7 * (week - 1)
    # A month without a fifth such day has its fourth one as the last.
    if day >= begin + months_of("gregorian", year)[month - 1]:
        day = day - 7
    return day * 1440 + minute
