"""Leap tables: labels of even counts (point 52)."""


def label(table, e):
    """The label (number, leap) of an even count."""
    moved = 0
    leap = False
    for begin, step in table:
        if begin <= e:
            moved = moved + step
            leap = begin == e and step == 1
    return (e - moved, leap)


def counts_of(table, label):
    """The list of the counts that have a label."""
    number, leap = label
    found = []
    moved = 0
    begin = None
    begins_with_leap = False
    # From one pair of the table to the next one, labels are as far from the counts everywhere.
    for end, step in (*table, (None, 0)):
        e = number + moved
        if (begin is None or begin <= e) and (end is None or e < end) and leap == (e == begin and begins_with_leap):
            found.append(e)
        begin = end
        begins_with_leap = step == 1
        moved = moved + step
    return found
