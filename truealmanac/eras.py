"""Eras: years that are counted from some days on (point 71)."""

from truealmanac.calendars import date_of, day_of, year_of
from truealmanac.errors import DateError


def era_date(eras, day):
    """The era date (name, year, month, day) of a day; raises DateError if no era has begun."""
    begun = [era for era in eras if era[1] <= day]
    if len(begun) == 0:
        raise DateError("era")
    name, first = begun[-1]
    year, month, number = date_of("gregorian", day)
    return (name, year - year_of("gregorian", first) + 1, month, number)


def day_of_era(eras, date):
    """The day of an era date; raises DateError if no day has it."""
    name, year, month, number = date
    firsts = [first for told, first in eras if told == name]
    if len(firsts) == 0:
        raise DateError("era")
    meant = year_of("gregorian", firsts[0]) + year - 1
    day = day_of("gregorian", (meant, month, number))
    # Another era may have begun by this day, or this one may not have begun yet.
    begun = [told for told, first in eras if first <= day]
    if len(begun) == 0 or begun[-1] != name:
        raise DateError("era")
    return day
