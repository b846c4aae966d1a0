"""Patterns: writing and reading dates and times of day (point 54)."""

from truealmanac.calendars import day_of
from truealmanac.errors import DateError, PatternError

LONGEST = 40
# How many digits stand for each letter.
DIGITS = {"Y": 4, "M": 2, "D": 2, "H": 2, "N": 2}


def is_pattern(pattern):
    """True if a text is a pattern."""
    if len(pattern) > LONGEST:
        return False
    if [pattern.count(letter) for letter in "YMD"] != [1, 1, 1]:
        return False
    if pattern.count("H") > 1 or pattern.count("N") > 1:
        return False
    return all([letter in DIGITS or not _is_capital_or_digit(letter) for letter in pattern])


def write(pattern, date, minute):
    """The text of a date and a minute of the day by a pattern."""
    hour, rest = divmod(minute, 60)
    numbers = {"Y": date[0], "M": date[1], "D": date[2], "H": hour, "N": rest}
    words = []
    for letter in pattern:
        if letter in DIGITS:
            words.append(str(numbers[letter]).zfill(DIGITS[letter]))
        else:
            words.append(letter)
    return "".join(words)


def read(calendar, pattern, text):
    """The date and the minute of the day of a text by a pattern; raises PatternError if it does not fit."""
    numbers = {"H": 0, "N": 0}
    at = 0
    for letter in pattern:
        end = at + DIGITS.get(letter, 1)
        for place in range(at, end):
            if place == len(text) or not _fits(letter, text[place]):
                raise PatternError(place)
        if letter in DIGITS:
            numbers[letter] = int(text[at:end])
        at = end
    if len(text) > at:
        raise PatternError(at)
    date = (numbers["Y"], numbers["M"], numbers["D"])
    if numbers["H"] > 23 or numbers["N"] > 59 or not _is_date(calendar, date):
        raise PatternError(-1)
    return (date, 60 * numbers["H"] + numbers["N"])


def _is_capital_or_digit(letter):
    return "A" <= letter <= "Z" or "0" <= letter <= "9"


def _fits(letter, written):
    """True if a written character can stand where a pattern has a letter."""
    if letter in DIGITS:
        return "0" <= written <= "9"
    return written == letter


def _is_date(calendar, date):
    try:
        day_of(calendar, date)
    except DateError:
        return False
    return True
