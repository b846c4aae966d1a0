"""The desk: an almanac that is asked by lines (points 43 and 44)."""

from truealmanac.almanac import almanac, next_event
from truealmanac.calendars import date_of, day_of, weekday
from truealmanac.commands import parts_of, wrong_at
from truealmanac.errors import DateError
from truealmanac.pages import page_text
from truealmanac.places import altitude
from truealmanac.sky import check_sky, latitude, longitude
from truealmanac.skytext import read_sky, sky_text
from truealmanac.texts import words_text
from truealmanac.values import angle_value, value
from truealmanac.waves import TURN

MOST_WISHES = 12
CHANGING = ("PLACE", "OFFSET", "PORT", "WISH", "FORGET")


class Desk:
    """A sky, a place, a zone, wishes and ports, and the lines that changed them."""

    def __init__(self, sky):
        check_sky(sky)
        # A copy: the text of a right sky tells all of it.
        self._sky = read_sky(sky_text(sky))
        self._place = (0, 0)
        self._zone = (0, ())
        self._wishes = []
        self._ports = {}
        self._lines = []

    def answer(self, line):
        """The answer to a line."""
        words = line.split(" ")
        at = self._wrong_at(words)
        if at is not None:
            return f"NO {at}"
        parts = parts_of(words)
        if parts[0] not in CHANGING:
            return self._told(parts)
        self._change(parts)
        self._lines.append(line)
        return "OK"

    def log(self):
        """The list of the lines that changed the desk, in order."""
        return list(self._lines)

    def _wrong_at(self, words):
        """The index of the first wrong word, or None."""
        if words[0] == "WISH" and len(self._wishes) == MOST_WISHES:
            return 0
        return wrong_at(words, self._sky["bodies"], self._ports)

    def _change(self, parts):
        word = parts[0]
        if word == "PLACE":
            self._place = (parts[1], parts[2])
        elif word == "OFFSET":
            self._zone = (parts[1], ())
        elif word == "PORT":
            terms = [tuple(parts[at:at + 4]) for at in range(2, len(parts), 4)]
            self._ports[parts[1]] = (parts[1], terms)
        elif word == "FORGET":
            self._wishes = []
        elif parts[1] == "tides":
            self._wishes.append(("tides", self._ports[parts[2]]))
        else:
            self._wishes.append(tuple(parts[1:]))

    def _told(self, parts):
        """The answer to a right line that changes nothing."""
        word = parts[0]
        if word == "DATE":
            return words_text(date_of(parts[1], parts[2]))
        if word == "DAY":
            return _day_told(parts[1], (parts[2], parts[3], parts[4]))
        if word == "WEEKDAY":
            return str(weekday(parts[1]))
        if word == "NEXT":
            return self._next_told(parts[1], parts[2])
        if word == "PAGE":
            return page_text("gregorian", almanac(self._sky, self._place, self._zone, self._wishes, parts[1], parts[2]))
        return self._values_told(parts[1], parts[2])

    def _next_told(self, tick, limit):
        least = None
        for wish in self._wishes:
            found = next_event(self._sky, self._place, wish, tick, limit)
            if found is not None and (least is None or found < least):
                least = found
                # A later event of another wish is not asked for.
                limit = found[0] - tick
        if least is None:
            return "NONE"
        return words_text((least[0], least[1], *least[2]))

    def _values_told(self, body, tick):
        along = angle_value(longitude(self._sky, body), tick) % TURN
        north = value(latitude(self._sky, body), tick)
        return words_text((along, north, value(altitude(self._sky, self._place, body), tick)))


def _day_told(calendar, date):
    try:
        return str(day_of(calendar, date))
    except DateError as error:
        return f"NO {error.code}"
