"""The judge of papers (points 10 and 11). It shares no step of the search with the finder."""

from truealmanac.reaches import reach
from truealmanac.values import value


def takes(q, start, end, cells):
    """True exactly if a list of pairs of numbers is a paper of a quantity for a span."""
    return covers(start, end, cells) and _all_sure(q, cells)


def changes_of(q, cells):
    """The changes of a paper of a quantity."""
    found = []
    was_up = None
    for t, _ in cells:
        is_up = value(q, t) >= 0
        if was_up is not None and is_up != was_up:
            found.append((t, "up" if is_up else "down"))
        was_up = is_up
    return found


def covers(start, end, cells):
    """True if the cells stand one right behind the other, from start to end."""
    next_tick = start
    for t, k in cells:
        if t != next_tick or k < 0:
            return False
        next_tick = t + k + 1
    return len(cells) > 0 and next_tick == end + 1


def _all_sure(q, cells):
    # Many cells of a paper are equally long.
    known = {}
    for t, k in cells:
        if k not in known:
            known[k] = reach(q, k)
        w = value(q, t)
        sure = known[k] <= w if w >= 0 else known[k] < -w
        if not sure:
            return False
    return True
