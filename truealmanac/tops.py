"""The greatest values of quantities, and papers that show them (point 60)."""

from truealmanac.judge import covers
from truealmanac.ladders import Ladder
from truealmanac.plans import Plan
from truealmanac.reaches import reach
from truealmanac.values import value


def top(q, start, end):
    """The greatest value of a quantity in a span, and the least tick at which it has it."""
    plan = Plan(q)
    w = _greatest(q, plan, start, end)
    return (w, _first_tick(q, plan, w, start, end))


def top_paper(q, start, end):
    """The longest top paper of a quantity for a span: a list of cells."""
    plan = Plan(q)
    ladder = Ladder(q)
    w = _greatest(q, plan, start, end)
    cells = []
    t = start
    while t <= end:
        k = ladder.longest(w - plan.value(t), end - t)
        cells.append((t, k))
        t = t + k + 1
    return cells


def takes_top(q, start, end, best, cells):
    """True exactly if a pair (w, t) and a list of pairs of numbers show the greatest value."""
    w, t = best
    if not start <= t <= end or value(q, t) != w or not covers(start, end, cells):
        return False
    known = {}
    for begin, k in cells:
        if k not in known:
            known[k] = reach(q, k)
        if value(q, begin) + known[k] > w:
            return False
    return True


def _greatest(q, plan, start, end):
    """The greatest value of a quantity in a span."""
    known = {}
    best = plan.value(start)
    parts = [(start, end)]
    # The parts of the span that may have a greater value are halved again and again. All of them are
    # about equally long, so few numbers of ticks need a reach.
    while len(parts) > 0:
        rows = []
        for low, high in parts:
            middle = (low + high) // 2
            rows.append((low, middle, high, plan.value(middle)))
        best = max(best, max([row[3] for row in rows]))
        parts = []
        for low, middle, high, w in rows:
            k = high - middle
            if k not in known:
                known[k] = reach(q, k)
            if w + known[k] > best:
                parts.extend(_halves(low, middle, high))
    return best


def _halves(low, middle, high):
    """The parts from low to high on both sides of the middle that have ticks."""
    return [part for part in ((low, middle - 1), (middle + 1, high)) if part[0] <= part[1]]


def _first_tick(q, plan, w, start, end):
    """The least tick from start on at which a quantity has its greatest value w."""
    ladder = Ladder(q)
    t = start
    v = plan.value(t)
    while v < w:
        # No value is w as long as the reach is less than what is missing.
        t = t + ladder.longest(w - v - 1, end - t) + 1
        v = plan.value(t)
    return t
