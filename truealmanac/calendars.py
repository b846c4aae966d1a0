"""Days, dates and calendars (points 29 to 32)."""

from truealmanac.bounds import within
from truealmanac.errors import DateError

DAY_LIMIT = 4000000
YEAR_LIMIT = 10000
MONTHS = (31, 28, 31, 30, 31, 30, 31, 31, 30, 31, 30, 31)
LEAP_MONTHS = (31, 29, 31, 30, 31, 30, 31, 31, 30, 31, 30, 31)


def weekday(day):
    """The weekday of a day; 0 is Monday."""
    return (day - 1) % 7


def is_calendar(calendar):
    """True if a string or a tuple of numbers and tuples is a calendar."""
    if not isinstance(calendar, tuple):
        return calendar == "gregorian" or calendar == "julian"
    if len(calendar) != 2 or not within(calendar[0], -DAY_LIMIT, DAY_LIMIT):
        return False
    years = calendar[1]
    if not isinstance(years, tuple) or not 1 <= len(years) <= 60:
        return False
    return all([_is_cycle_year(lengths) for lengths in years])


def day_of(calendar, date):
    """The day of a date; raises DateError if the date is none."""
    year, month, day = date
    if not -YEAR_LIMIT <= year <= YEAR_LIMIT:
        raise DateError("year")
    fault = date_fault(calendar, date)
    if fault != "":
        raise DateError(fault)
    return month_start(calendar, year, month) + day - 1


def date_fault(calendar, date):
    """What is wrong with a date in its year: "month" or "day", or an empty string if nothing is."""
    year, month, day = date
    lengths = months_of(calendar, year)
    if not 1 <= month <= len(lengths):
        return "month"
    if not 1 <= day <= lengths[month - 1]:
        return "day"
    return ""


def date_of(calendar, day):
    """The date of a day."""
    year = year_of(calendar, day)
    rest = day - year_start(calendar, year)
    lengths = months_of(calendar, year)
    month = 1
    while rest >= lengths[month - 1]:
        rest = rest - lengths[month - 1]
        month = month + 1
    return (year, month, rest + 1)


def months_of(calendar, year):
    """The lengths of the months of a year, a tuple."""
    if isinstance(calendar, tuple):
        years = calendar[1]
        return years[(year - 1) % len(years)]
    if _is_leap(calendar, year):
        return LEAP_MONTHS
    return MONTHS


def year_start(calendar, year):
    """The day on which a year begins."""
    before = year - 1
    if calendar == "gregorian":
        return 1 + 365 * before + before // 4 - before // 100 + before // 400
    if calendar == "julian":
        return -1 + 365 * before + before // 4
    first, years = calendar
    rounds = before // len(years)
    ahead = years[:before % len(years)]
    return first + rounds * _length_of(years) + _length_of(ahead)


def month_start(calendar, year, month):
    """The day on which a month of a year begins."""
    return year_start(calendar, year) + sum(months_of(calendar, year)[:month - 1])


def year_of(calendar, day):
    """The year that a day is in."""
    if isinstance(calendar, tuple):
        return _cycle_year_of(calendar, day)
    # 400 Gregorian years have 146097 days, 4 Julian ones 1461. No guess is too late.
    if calendar == "gregorian":
        year = (day - 1) * 400 // 146097
    else:
        year = (day + 1) * 4 // 1461
    while year_start(calendar, year + 1) <= day:
        year = year + 1
    return year


def _cycle_year_of(cycle, day):
    first, years = cycle
    rounds, rest = divmod(day - first, _length_of(years))
    year = rounds * len(years) + 1
    for lengths in years:
        if rest < sum(lengths):
            break
        rest = rest - sum(lengths)
        year = year + 1
    return year


def _is_leap(calendar, year):
    if calendar == "gregorian" and year % 100 == 0:
        return year % 400 == 0
    return year % 4 == 0


def _is_cycle_year(lengths):
    if not isinstance(lengths, tuple) or not 1 <= len(lengths) <= 14:
        return False
    return all([within(length, 1, 400) for length in lengths])


def _length_of(years):
    """The number of days of some years of a cycle."""
    return sum([sum(lengths) for lengths in years])
