"""Plans of watches: windows that are apart, and stops that meet all windows (point 65)."""

from truealmanac.ordered import last_up_to


def plan(windows):
    """The plan of a list of windows: the indexes of windows that are apart, and the stops."""
    chosen = []
    stops = []
    # The window with the least end behind the last stop is the next one in this order that begins there:
    # what was passed over begins at or before a stop.
    for end, at in sorted([(window[1], at) for at, window in enumerate(windows)]):
        if len(stops) == 0 or windows[at][0] > stops[-1]:
            chosen.append(at)
            stops.append(end)
    return (tuple(chosen), tuple(stops))


def takes_plan(windows, chosen, stops):
    """True exactly if two tuples of numbers are a plan for a list of windows."""
    if len(chosen) != len(stops) or not all([0 <= at < len(windows) for at in chosen]):
        return False
    return _are_apart([windows[at] for at in chosen]) and _all_met(windows, stops)


def _are_apart(windows):
    """True if some windows are apart from each other and ascend."""
    return all([before[1] < window[0] for before, window in zip(windows, windows[1:])])


def _all_met(windows, stops):
    """True if the stops ascend and each window has one of them."""
    if not all([before < stop for before, stop in zip(stops, stops[1:])]):
        return False
    for start, end in windows:
        at = last_up_to(stops, end)
        if at == -1 or stops[at] < start:
            return False
    return True
