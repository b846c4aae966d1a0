"""Working days (point 58)."""

from truealmanac.calendars import weekday
from truealmanac.ordered import last_up_to


def is_working(rest, holidays, day):
    """True if a day is neither a weekday of rest nor a holiday."""
    if weekday(day) in rest:
        return False
    at = last_up_to(holidays, day)
    return at == -1 or holidays[at] != day


def count_working(rest, holidays, first, last):
    """The number of the working days from first to last."""
    return _count(rest, _lost_days(rest, holidays), first, last)


def go_on(rest, holidays, day, n):
    """The day that is n working days behind a day, or before it if n is below 0."""
    if n == 0:
        return day
    lost = _lost_days(rest, holidays)
    # So many days surely have too few working days, or just enough.
    near = abs(n) - 1
    far = 7 * (abs(n) + len(lost))
    while far - near > 1:
        middle = (near + far) // 2
        if _count_beside(rest, lost, day, n, middle) < abs(n):
            near = middle
        else:
            far = middle
    return day + far if n > 0 else day - far


def _lost_days(rest, holidays):
    """The holidays that would be working days otherwise, each once, ascending."""
    return sorted({day for day in holidays if weekday(day) not in rest})


def _count_beside(rest, lost, day, n, many):
    """The number of the working days among so many days right behind a day, or before it if n is below 0."""
    if n > 0:
        return _count(rest, lost, day + 1, day + many)
    return _count(rest, lost, day - many, day - 1)


def _count(rest, lost, first, last):
    """The number of the days from first to last that are no weekday of rest and not lost."""
    if last < first:
        return 0
    weeks, more = divmod(last - first + 1, 7)
    days = weeks * (7 - len(rest))
    days = days + len([day for day in range(last - more + 1, last + 1) if weekday(day) not in rest])
    return days - (last_up_to(lost, last) - last_up_to(lost, first - 1))
