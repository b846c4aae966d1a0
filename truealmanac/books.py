"""Books: the days of an almanac that have events or feasts, as texts (point 74)."""

from truealmanac.almanac import almanac
from truealmanac.bounds import is_name, within
from truealmanac.calendars import DAY_LIMIT, date_of, weekday
from truealmanac.eras import era_date
from truealmanac.errors import BookError, DateError
from truealmanac.feasts import feast_days
from truealmanac.pages import may_follow, row_line, row_of
from truealmanac.texts import line_text, lines_of, number_of, numbers_of

# How many days ahead of a book and behind it have facts.
MARGIN = 10
MOST_DAYS_BEHIND = 366


def book(sky, place, zone, wishes, feasts, eras, first, last):
    """The book of the days from first to last."""
    entries = almanac(sky, place, zone, wishes, first - MARGIN, last + MARGIN)
    names = _feasts_by_day(feasts, _facts(entries), first, last)
    lines = [line_text(("BOOK", first, last)), _era_line(eras, first)]
    for day, rows in entries[MARGIN:-MARGIN]:
        if len(rows) > 0 or len(names[day]) > 0:
            lines.append(line_text(("DAY", day, *date_of("gregorian", day), weekday(day))))
            lines.extend([row_line(row) for row in rows])
            lines.extend([line_text(("FEAST", name)) for name in names[day]])
    return "".join(lines)


def read_book(text):
    """The list of tuples (day, rows, names of feasts) of a book; raises BookError if a text is none."""
    lines = lines_of(text)
    span = _span_of(lines[0]) if len(lines) > 0 else None
    if span is None:
        raise BookError(0)
    found = []
    begin = 2 if len(lines) > 1 and _is_era(lines[1]) else 1
    for at in range(begin, len(lines)):
        words = lines[at]
        if words[0] == "DAY":
            # A day is told only if it has something.
            if not _is_next_day(words, span, found) or not _has_something(lines[at + 1:at + 2]):
                raise BookError(at)
            found.append((int(words[1]), [], []))
        elif not _may_stand(words, found):
            raise BookError(at)
        elif words[0] == "FEAST":
            found[-1][2].append(words[1])
        else:
            found[-1][1].append(row_of(words))
    return found


def _facts(entries):
    """For each kind of the rows of some days the ascending list of the days that have it."""
    facts = {}
    for day, rows in entries:
        for kind in sorted({row[1] for row in rows}):
            facts.setdefault(kind, []).append(day)
    return facts


def _feasts_by_day(feasts, facts, first, last):
    """For each day from first to last the ascending names of its feasts."""
    names = {day: [] for day in range(first, last + 1)}
    for name in sorted(feasts):
        for day in feast_days(feasts[name], facts, first, last):
            names[day].append(name)
    return names


def _era_line(eras, first):
    """The line of the era of the first day, or an empty text if there is none."""
    if eras is None:
        return ""
    try:
        date = era_date(eras, first)
    except DateError:
        return ""
    return line_text(("ERA", date[0], date[1]))


def _span_of(words):
    """The days (first, last) of a BOOK line, or None if it is wrong."""
    numbers = numbers_of(words[1:])
    if words[0] != "BOOK" or numbers is None or len(numbers) != 2:
        return None
    first, last = numbers
    if not within(first, -DAY_LIMIT, DAY_LIMIT) or not within(last, -DAY_LIMIT, DAY_LIMIT):
        return None
    if not first <= last <= first + MOST_DAYS_BEHIND:
        return None
    return (first, last)


def _is_era(words):
    """True if some words are an ERA line."""
    return len(words) == 3 and words[0] == "ERA" and is_name(words[1]) and number_of(words[2]) is not None


def _is_next_day(words, span, found):
    """True if a DAY line tells a day of the span behind those that were found."""
    numbers = numbers_of(words[1:])
    if numbers is None or len(numbers) != 5:
        return False
    day = numbers[0]
    if not span[0] <= day <= span[1] or (len(found) > 0 and day <= found[-1][0]):
        return False
    return tuple(numbers[1:]) == (*date_of("gregorian", day), weekday(day))


def _has_something(lines):
    """True if there is a line behind a DAY line, and it is a right row or feast."""
    return len(lines) > 0 and (_is_feast(lines[0]) or row_of(lines[0]) is not None)


def _is_feast(words):
    """True if some words are a FEAST line."""
    return len(words) == 2 and words[0] == "FEAST" and is_name(words[1])


def _may_stand(words, found):
    """True if some words are a row or a feast that may stand behind what was found."""
    if len(found) == 0:
        return False
    _, rows, names = found[-1]
    if _is_feast(words):
        return len(names) == 0 or words[1] > names[-1]
    row = row_of(words)
    return row is not None and len(names) == 0 and may_follow(rows, row)
