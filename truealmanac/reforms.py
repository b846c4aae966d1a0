"""Reforms: calendars that change on some days (point 68)."""

from truealmanac.calendars import DAY_LIMIT, date_fault, date_of, month_start


def full_date(reform, day):
    """The number of changes until a day, and the date of the day in the calendar that counts."""
    calendar, changes = reform
    index = 0
    for begin, later in changes:
        if begin <= day:
            index = index + 1
            calendar = later
    return (index, date_of(calendar, day))


def days_of(reform, date):
    """The ascending list of the days that have a date in the calendar that counts on them."""
    calendar, changes = reform
    year, month, number = date
    found = []
    begin = -DAY_LIMIT
    for change, later in (*changes, (DAY_LIMIT + 1, calendar)):
        end = min(change, DAY_LIMIT + 1)
        if date_fault(calendar, date) == "":
            day = month_start(calendar, year, month) + number - 1
            if begin <= day < end:
                found.append(day)
        begin = max(begin, change)
        calendar = later
    return found
