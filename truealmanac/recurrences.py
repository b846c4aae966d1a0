"""Recurrences: days that come again and again (point 57)."""

from truealmanac.calendars import date_of, month_start, months_of
from truealmanac.stretches import stretches

FARTHEST = 200000
FIRST_STRETCH = 400


def occurs(recurrence, day):
    """True if a day is one of a recurrence."""
    return len(occurrences(recurrence, day, day)) > 0


def occurrences(recurrence, first, last):
    """The ascending list of the days of a recurrence from first to last."""
    word, start, n = recurrence[:3]
    begin = max(first, start)
    if begin > last:
        return []
    if word == "days":
        return list(range(_next_multiple(start, begin, n), last + 1, n))
    if word == "weeks":
        days = _days_of_weeks(recurrence, begin, last)
    else:
        days = _days_of_months(recurrence, begin, last)
    return [day for day in days if begin <= day <= last]


def next_day(recurrence, day):
    """The least day of a recurrence behind a day and at most 200000 days behind it, or None."""
    for begin, end in stretches(day, day + FARTHEST, FIRST_STRETCH):
        found = occurrences(recurrence, begin + 1, end)
        if len(found) > 0:
            return found[0]
    return None


def _next_multiple(start, begin, n):
    """The least number from begin on that differs from start by a multiple of n."""
    return begin + (start - begin) % n


def _days_of_weeks(recurrence, begin, last):
    """The days in all weeks of a recurrence from that of begin to that of last."""
    _, start, n, weekdays = recurrence
    days = []
    for week in range(_next_multiple(_week_of(start), _week_of(begin), n), _week_of(last) + 1, n):
        # Day 1 is a Monday.
        days.extend([1 + 7 * week + number for number in weekdays])
    return days


def _days_of_months(recurrence, begin, last):
    """The days in all months of a recurrence from that of begin to that of last."""
    _, start, n, wanted = recurrence
    days = []
    for at in range(_next_multiple(_month_of(start), _month_of(begin), n), _month_of(last) + 1, n):
        year, month = divmod(at, 12)
        length = months_of("gregorian", year)[month]
        number = length if wanted == 0 else wanted
        if number <= length:
            days.append(month_start("gregorian", year, month + 1) + number - 1)
    return days


def _week_of(day):
    """The number of the week of a day; that of day 1 is 0."""
    return (day - 1) // 7


def _month_of(day):
    """The number of the month of a day; that of the first month of the year 0 is 0."""
    year, month, _ = date_of("gregorian", day)
    return 12 * year + month - 1
