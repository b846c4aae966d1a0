"""The forms of the lines that a desk takes (point 43)."""

from truealmanac.bounds import is_name, within
from truealmanac.texts import number_of

DAYS_OF_PAGE = 366
MOST_TERMS = 20

# What stands behind each command and each kind of wish, word by word. PORT is missing, since it has
# any number of terms.
COMMANDS = {
    "PLACE": ("latitude", "longitude"),
    "OFFSET": ("offset",),
    "FORGET": (),
    "DATE": ("calendar", "day"),
    "DAY": ("calendar", "number", "number", "number"),
    "WEEKDAY": ("day",),
    "NEXT": ("tick", "limit"),
    "PAGE": ("day", "last"),
    "VALUE": ("body", "tick"),
    "WISH": ("wish",),
}
WISHES = {
    "risings": ("body", "height"),
    "seasons": ("body",),
    "phases": ("body", "other"),
    "meetings": ("body", "other"),
    "nodes": ("body",),
    "eclipses": ("body", "other", "share", "share"),
    "tides": ("port",),
}
TERM = ("amplitude", "start", "speed", "divisor")
RANGES = {
    "latitude": (-324000, 324000),
    "longitude": (-648000, 648000),
    "height": (-324000, 324000),
    "offset": (-1500, 1500),
    "day": (-4000000, 4000000),
    "last": (-4000000, 4000000),
    "tick": (-1000000000, 1000000000),
    "limit": (1, 600000),
    "share": (0, 1000000000),
    "amplitude": (-100000, 100000),
    "start": (-1000000000000, 1000000000000),
    "speed": (-1000000, 1000000),
    "divisor": (1, 1000000),
    # Any number of at most 20 digits.
    "number": (-99999999999999999999, 99999999999999999999),
}


def wrong_at(words, bodies, ports):
    """The index of the first wrong word of a line, or None; for a desk with these bodies and ports."""
    shape = _shape_of(words)
    if shape is None:
        return 0
    for at, kind in enumerate(shape, 1):
        if at == len(words) or not _is_right(kind, words, at, bodies, ports):
            return at
    if len(words) > len(shape) + 1:
        return len(shape) + 1
    return None


def parts_of(words):
    """The words of a line, those that are numbers as numbers."""
    return [_part_of(word) for word in words]


def _part_of(word):
    number = number_of(word)
    return word if number is None else number


def _shape_of(words):
    """The kinds of the words that must stand behind the first one, or None if that is no command."""
    if words[0] == "PORT":
        # A term that has begun must be whole, and there is at least one.
        terms = (len(words) - 2 + len(TERM) - 1) // len(TERM)
        return ("new",) + TERM * min(MOST_TERMS, max(1, terms))
    if words[0] == "WISH" and len(words) > 1:
        return ("wish",) + WISHES.get(words[1], ())
    return COMMANDS.get(words[0], None)


def _is_right(kind, words, at, bodies, ports):
    """True if the word at an index is one of the kind; the words before it are right."""
    word = words[at]
    if kind in RANGES:
        return _is_number(kind, words, at)
    if kind == "calendar":
        return word == "gregorian" or word == "julian"
    if kind == "body":
        return word in bodies
    if kind == "other":
        return word in bodies and word != words[at - 1]
    if kind == "port":
        return word in ports
    if kind == "new":
        return is_name(word) and word not in ports
    return word in WISHES


def _is_number(kind, words, at):
    number = number_of(words[at])
    low, high = RANGES[kind]
    # Nothing is within a range if it is no number.
    if not within(number, low, high):
        return False
    return kind != "last" or 0 <= number - int(words[at - 1]) <= DAYS_OF_PAGE
