"""Papers, changes, moments, passings and the time up (points 9 to 13 and 27)."""

from truealmanac.ladders import Ladder
from truealmanac.plans import Plan
from truealmanac.values import value
from truealmanac.waves import QUARTER


def paper(q, start, end):
    """The longest paper of a quantity for a span: a list of cells."""
    return [(t, k) for t, k, _ in _scan(q, start, end)]


def changes(q, start, end):
    """The list of the changes of a quantity in a span."""
    found = []
    rows = _scan(q, start, end)
    for before, row in zip(rows, rows[1:]):
        if row[2] != before[2]:
            found.append((row[0], "up" if row[2] else "down"))
    return found


def moment(q, t):
    """The moment of a change of a quantity at the tick t."""
    before = abs(value(q, t - 1))
    return (t - 1, before, before + abs(value(q, t)))


def passings(a, start, end):
    """The list of the passings of an angle expression in a span."""
    found = []
    ahead = ("wave", ("moved", a, ("number", QUARTER)))
    for t, side in changes(("wave", a), start, end):
        if value(ahead, t) > 0:
            found.append((t, 1 if side == "up" else -1))
    return found


def time_up(q, start, end):
    """The number of ticks of a span at which a quantity is up."""
    return sum([k + 1 for _, k, is_up in _scan(q, start, end) if is_up])


def _scan(q, start, end):
    """The cells of the longest paper in order, each with True if the quantity is up in it."""
    plan = Plan(q)
    ladder = Ladder(q)
    rows = []
    t = start
    while t <= end:
        w = plan.value(t)
        # The reach is at most w, or less than -w if w is below 0 (point 10).
        limit = w if w >= 0 else -w - 1
        k = ladder.longest(limit, end - t)
        rows.append((t, k, w >= 0))
        t = t + k + 1
    return rows
