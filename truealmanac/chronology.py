"""Chronologies: what bounds on differences of ticks tell about all of them (points 63 and 64).

A way is a tuple (from, to, limit, edge): an edge with the names that it leads from and to, and its limit.
"""


def chronology(names, constraints):
    """("bounds", a dict) of a chronology, or ("circle", a circle) if no ticks fulfil it."""
    ways = _ways_of(constraints)
    circle = _distances_or_circle(names, ways)[1]
    if circle is not None:
        return ("circle", circle)
    highs = _highs(names, ways)
    bounds = {}
    for a in names:
        for b in names:
            if a != b:
                # The tick of b minus that of a is the negative of that of a minus that of b.
                back = highs[(b, a)]
                bounds[(a, b)] = (None if back is None else -back, highs[(a, b)])
    return ("bounds", bounds)


def takes_circle(constraints, edges):
    """True exactly if a tuple of pairs of numbers is a circle of constraints."""
    ways = [_way_of(constraints, edge) for edge in edges]
    if len(ways) == 0 or None in ways:
        return False
    # The first one begins where the last one ends.
    for before, way in zip([ways[-1]] + ways, ways):
        if before[1] != way[0]:
            return False
    return sum([way[2] for way in ways]) < 0


def fulfilled(names, constraints):
    """A dict from names to ticks that fulfil all constraints, or None if there are none."""
    distances = _distances_or_circle(names, _ways_of(constraints))[0]
    if distances is None:
        return None
    # Ticks have a range, so they lie around 0 as far as one can.
    lowest = min(list(distances.values()), default=0)
    return {name: distances[name] - lowest // 2 for name in names}


def _ways_of(constraints):
    """The ways of all edges of a list of constraints."""
    edges = [(at, way) for at in range(len(constraints)) for way in (1, -1)]
    ways = [_way_of(constraints, edge) for edge in edges]
    return [way for way in ways if way is not None]


def _way_of(constraints, edge):
    """The way of a pair of numbers, or None if the pair is no edge."""
    at, way = edge
    if not 0 <= at < len(constraints):
        return None
    a, b, low, high = constraints[at]
    if way == 1 and high is not None:
        return (a, b, high, edge)
    if way == -1 and low is not None:
        return (b, a, -low, edge)
    return None


def _distances_or_circle(names, ways):
    """A pair: the least sums of limits on any way to each name, and None; or None and a circle.

    A way may begin at any name, with the sum 0 there.
    """
    distances = {name: 0 for name in names}
    arrivals = {}
    changed = None
    # Without a circle, as many rounds as there are names leave nothing to do in the last one.
    for _ in names:
        changed = None
        for way in ways:
            if distances[way[0]] + way[2] < distances[way[1]]:
                distances[way[1]] = distances[way[0]] + way[2]
                arrivals[way[1]] = way
                changed = way[1]
        if changed is None:
            break
    if changed is None:
        return distances, None
    return None, _circle_behind(arrivals, changed, len(names))


def _circle_behind(arrivals, name, many):
    """The circle that one comes to, going backwards from a name by the ways of arrival."""
    # Behind so many steps one surely is in the circle.
    for _ in range(many):
        name = arrivals[name][0]
    edges = []
    at = name
    while len(edges) == 0 or at != name:
        way = arrivals[at]
        edges.append(way[3])
        at = way[0]
    return tuple(reversed(edges))


def _highs(names, ways):
    """For each pair of names the least sum of limits from the first to the second one, or None."""
    highs = {(a, b): 0 if a == b else None for a in names for b in names}
    for a, b, limit, _ in ways:
        highs[(a, b)] = _least(highs[(a, b)], limit)
    for between in names:
        for a in names:
            for b in names:
                if highs[(a, between)] is not None and highs[(between, b)] is not None:
                    over = highs[(a, between)] + highs[(between, b)]
                    highs[(a, b)] = _least(highs[(a, b)], over)
    return highs


def _least(told, number):
    """The lesser one of a number or None, and a number."""
    return number if told is None else min(told, number)
