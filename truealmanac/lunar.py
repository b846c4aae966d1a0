"""Moon tables: years of months that begin with new moons (points 33 and 34)."""

from truealmanac.errors import LunarError
from truealmanac.events import forward_ticks
from truealmanac.ordered import last_up_to
from truealmanac.sky import elongation, longitude


class MoonTable:
    """Dates (year, month, day) by the days of months and of springs."""

    def __init__(self, months, springs):
        self._months = list(months)
        self._firsts = _first_months(months, springs)

    def date(self, day):
        """The date of a day; raises LunarError("day")."""
        months = self._months
        at = last_up_to(months, day)
        year = last_up_to(self._firsts, at) + 1
        if year == 0 or at == len(months) - 1:
            raise LunarError("day")
        return (year, at - self._firsts[year - 1] + 1, day - months[at] + 1)

    def day(self, date):
        """The day of a date; raises LunarError("date")."""
        year, month, number = date
        if not 1 <= year <= len(self._firsts) or month < 1 or number < 1:
            raise LunarError("date")
        at = self._firsts[year - 1] + month - 1
        if at >= self._year_end(year):
            raise LunarError("date")
        day = self._months[at] + number - 1
        if day >= self._months[at + 1]:
            raise LunarError("date")
        return day

    def years(self):
        """The number of the first months."""
        return len(self._firsts)

    def _year_end(self, year):
        """The index of the month right behind a year."""
        if year < len(self._firsts):
            return self._firsts[year]
        # The last entry only ends the last month.
        return len(self._months) - 1


def moon_table(sky, moon, sun, start, end):
    """The moon table of the moon and the sun of a sky in a span."""
    apart = elongation(sky, moon, sun)
    months = _days_of(forward_ticks(apart, 0, start, end))
    springs = _days_of(forward_ticks(longitude(sky, sun), 0, start, end))
    if len(months) < 2:
        raise LunarError("months")
    return MoonTable(months, springs)


def _days_of(ticks):
    """The days of some ticks, each once."""
    return sorted({t // 1440 for t in ticks})


def _first_months(months, springs):
    """The indexes of the first months."""
    found = []
    for at in range(len(months) - 1):
        last_spring = last_up_to(springs, months[at + 1] - 1)
        if last_spring >= 0 and springs[last_spring] >= months[at]:
            found.append(at)
    return found
