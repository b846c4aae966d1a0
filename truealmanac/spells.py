"""Spells: the ticks at which a quantity is up, in pairs (start, end) (point 72)."""

from truealmanac.finder import changes
from truealmanac.values import value


def spells_of(q, start, end):
    """The list of the spells of a quantity in a span."""
    found = []
    begin = start if value(q, start) >= 0 else None
    for t, side in changes(q, start, end):
        if side == "up":
            begin = t
        else:
            found.append((begin, t - 1))
            begin = None
    if begin is not None:
        found.append((begin, end))
    return found


def both(first, second):
    """The list of spells with the ticks that are in both lists."""
    found = []
    at = 0
    other = 0
    while at < len(first) and other < len(second):
        begin = max(first[at][0], second[other][0])
        end = min(first[at][1], second[other][1])
        if begin <= end:
            found.append((begin, end))
        # The spell that ends sooner has no tick in common with later ones.
        if first[at][1] < second[other][1]:
            at = at + 1
        else:
            other = other + 1
    return found


def either(first, second):
    """The list of spells with the ticks that are in one of both lists at least."""
    return joined(sorted(first + second))


def rest(spells, start, end):
    """The list of spells with the ticks of a span that are in no spell."""
    found = []
    begin = start
    for spell in spells:
        found.append((begin, min(end, spell[0] - 1)))
        begin = max(begin, spell[1] + 1)
    found.append((begin, end))
    return [gap for gap in found if gap[0] <= gap[1]]


def length(spells):
    """The number of the ticks of a list of spells."""
    return sum([end - start + 1 for start, end in spells])


def joined(pairs):
    """The list of spells with the ticks of some pairs (start, end) that ascend but may touch or overlap."""
    found = []
    for start, end in pairs:
        if len(found) > 0 and start <= found[-1][1] + 1:
            before = found.pop()
            found.append((before[0], max(before[1], end)))
        else:
            found.append((start, end))
    return found
