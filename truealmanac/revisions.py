"""Revisions: which events moved, are gone or are new (points 76 and 77)."""

from truealmanac.texts import line_text


def best_matching(old, new, limit):
    """The best matching of two ascending lists of ticks, a list of pairs of indexes."""
    # For the ticks of the old list from an index on and those of the new list from each index on: minus
    # the number of pairs of the best matching, its sum of differences, and itself. The least is the best.
    behind = [(0, 0, []) for _ in range(len(new) + 1)]
    for i in reversed(range(len(old))):
        # This row is made from its end on.
        row = [(0, 0, [])]
        for j in reversed(range(len(new))):
            best = min(behind[j], row[-1])
            apart = abs(old[i] - new[j])
            if apart <= limit:
                lacking, total, pairs = behind[j + 1]
                best = min(best, (lacking - 1, total + apart, [(i, j)] + pairs))
            row.append(best)
        behind = list(reversed(row))
    return behind[0][2]


def report(old, new, limit):
    """The report of what changed from one list of events to another one."""
    before = _ticks_by_label(old)
    after = _ticks_by_label(new)
    labels = sorted(set(list(before) + list(after)))
    return "".join([_label_report(label, before.get(label, []), after.get(label, []), limit) for label in labels])


def _ticks_by_label(events):
    """The list of the ticks of each kind and names."""
    found = {}
    for tick, kind, names in events:
        found.setdefault((kind, names), []).append(tick)
    return found


def _label_report(label, old, new, limit):
    """The lines of one kind and names."""
    kind, names = label
    matching = best_matching(old, new, limit)
    kept = [i for i, _ in matching]
    told = [j for _, j in matching]
    lines = [line_text(("MOVED", kind, *names, old[i], new[j])) for i, j in matching if old[i] != new[j]]
    lines.extend([line_text(("GONE", kind, *names, old[i])) for i in range(len(old)) if i not in kept])
    lines.extend([line_text(("NEW", kind, *names, new[j])) for j in range(len(new)) if j not in told])
    return "".join(lines)
