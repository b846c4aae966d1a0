"""Durations in months and days (point 53)."""

from truealmanac.calendars import date_of, day_of, month_start, months_of


def add(calendar, date, duration):
    """The date that is a duration (months, days) behind a date; raises DateError if the date is none."""
    months, days = duration
    # Only the check: the day itself is not needed.
    day_of(calendar, date)
    return date_of(calendar, _months_behind(calendar, date, months) + days)


def difference(calendar, first, second):
    """The duration from a date to one that is not before it; raises DateError if one of them is none."""
    day_of(calendar, first)
    end = day_of(calendar, second)
    months = 12 * (second[0] - first[0]) + second[1] - first[1]
    begin = _months_behind(calendar, first, months)
    if begin > end:
        months = months - 1
        begin = _months_behind(calendar, first, months)
    return (months, end - begin)


def _months_behind(calendar, date, months):
    """The day of a date whose month is moved by so many months."""
    year, month, number = date
    year, at = divmod(12 * year + month - 1 + months, 12)
    length = months_of(calendar, year)[at]
    return month_start(calendar, year, at + 1) + min(number, length) - 1
