"""Feasts: expressions for sets of days (point 38).

A set is asked for in a row of days, and given as a list that has True or False for each of them.
"""

from truealmanac.calendars import month_start, months_of, weekday, year_of

FIRST_SPACE = 400


def is_day(feast, facts, day):
    """True if a day is in the set of a feast."""
    return _marks(feast, facts, day, day)[0]


def feast_days(feast, facts, first, last):
    """The ascending list of the days of a feast from first to last."""
    marks = _marks(feast, facts, first, last)
    return [day for day, mark in enumerate(marks, first) if mark]


def _marks(feast, facts, first, last):
    """Whether each day from first to last is in the set of a feast."""
    word = feast[0]
    if word == "weekday":
        return [weekday(day) == feast[1] for day in range(first, last + 1)]
    if word == "date":
        return _marked(_date_days(feast, first, last), first, last)
    if word == "told":
        return _marked(facts.get(feast[1], []), first, last)
    if word == "shift":
        return _marks(feast[1], facts, first - feast[2], last - feast[2])
    if word == "not":
        return [not mark for mark in _marks(feast[1], facts, first, last)]
    if word == "first":
        return _first_marks(feast, facts, first, last)
    pairs = list(zip(_marks(feast[1], facts, first, last), _marks(feast[2], facts, first, last)))
    if word == "and":
        return [a and b for a, b in pairs]
    return [a or b for a, b in pairs]


def _marked(days, first, last):
    """True for each of some days, False for the other ones from first to last."""
    marks = [False] * max(0, last - first + 1)
    for day in days:
        if first <= day <= last:
            marks[day - first] = True
    return marks


def _date_days(feast, first, last):
    """The days with the date of a feast in the years from that of first to that of last."""
    calendar, month, number = feast[1:]
    days = []
    for year in range(year_of(calendar, first), year_of(calendar, last) + 1):
        lengths = months_of(calendar, year)
        if 1 <= month <= len(lengths) and 1 <= number <= lengths[month - 1]:
            days.append(month_start(calendar, year, month) + number - 1)
    return days


def _first_marks(feast, facts, first, last):
    """The marks of ("first", a, b)."""
    # A day y of b that counts for a day from first on is at most 400 ahead of it.
    begin = first - FIRST_SPACE
    targets = _marks(feast[1], facts, begin, last)
    sources = _marks(feast[2], facts, begin, last)
    marks = []
    # The latest day of b behind which no day of a has been yet.
    waiting = None
    for day in range(begin, last + 1):
        if sources[day - begin]:
            waiting = day
        is_target = targets[day - begin]
        marks.append(is_target and waiting is not None and day - waiting <= FIRST_SPACE)
        if is_target:
            waiting = None
    return marks[FIRST_SPACE:]
