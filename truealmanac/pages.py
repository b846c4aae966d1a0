"""Pages: the texts of almanacs (point 40)."""

from truealmanac.bounds import within
from truealmanac.calendars import DAY_LIMIT, date_of
from truealmanac.errors import PageError
from truealmanac.texts import is_digits, line_text, lines_of, numbers_of

LONGEST_WORD = 8


def page_text(calendar, entries):
    """The page of the entries of an almanac."""
    lines = []
    for day, rows in entries:
        lines.append(line_text(("DAY", day, *date_of(calendar, day))))
        lines.extend([row_line(row) for row in rows])
    return "".join(lines)


def read_page(calendar, text):
    """The entries of the almanac of a page; raises PageError if it is none."""
    entries = []
    for at, words in enumerate(lines_of(text)):
        if words[0] == "DAY":
            day = _day_of_line(calendar, words)
            if day is None or (len(entries) > 0 and day != entries[-1][0] + 1):
                raise PageError(at)
            entries.append((day, []))
        else:
            row = row_of(words)
            if row is None or len(entries) == 0 or not may_follow(entries[-1][1], row):
                raise PageError(at)
            entries[-1][1].append(row)
    return entries


def row_line(row):
    """The line of a row (minute, kind, names)."""
    minute, kind, names = row
    hours, rest = divmod(minute, 60)
    return line_text((f"{hours:02d}:{rest:02d}", kind, *names))


def row_of(words):
    """The row that the words of a line are, or None if they are none."""
    minute = _minute_of(words[0])
    if minute is None or len(words) < 2 or not all([_is_label(word) for word in words[1:]]):
        return None
    return (minute, words[1], tuple(words[2:]))


def may_follow(rows, row):
    """True if the minutes ascend or stay from the rows of a day to one more row."""
    return len(rows) == 0 or rows[-1][0] <= row[0]


def _day_of_line(calendar, words):
    """The day of a DAY line, or None if the line is wrong by itself."""
    numbers = numbers_of(words[1:])
    if numbers is None or len(numbers) != 4 or not within(numbers[0], -DAY_LIMIT, DAY_LIMIT):
        return None
    if tuple(numbers[1:]) != date_of(calendar, numbers[0]):
        return None
    return numbers[0]


def _minute_of(word):
    """The minute of the day that a word like 07:05 tells, or None."""
    if len(word) != 5 or word[2] != ":" or not is_digits(word[:2] + word[3:]):
        return None
    hours = int(word[:2])
    rest = int(word[3:])
    if hours > 23 or rest > 59:
        return None
    return 60 * hours + rest


def _is_label(word):
    """True if a word is a kind or a name of a row: small letters and digits, a letter first."""
    if not 1 <= len(word) <= LONGEST_WORD or not "a" <= word[0] <= "z":
        return False
    return all(["a" <= letter <= "z" or "0" <= letter <= "9" for letter in word])
