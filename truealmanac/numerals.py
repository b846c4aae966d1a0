"""Arc texts and Roman numerals (points 55 and 56)."""

from truealmanac.errors import PatternError

MOST_DEGREE_DIGITS = 9
# What stands behind the degrees of an arc text: colons, and digits with the greatest one at each place.
ARC_TAIL = ":59:59"
GREATEST_ROMAN = 3999
ROMAN_VALUES = (
    (1000, "M"), (900, "CM"), (500, "D"), (400, "CD"), (100, "C"), (90, "XC"), (50, "L"), (40, "XL"), (10, "X"),
    (9, "IX"), (5, "V"), (4, "IV"), (1, "I"),
)


def arc_text(angle):
    """The degrees, minutes and seconds of an angle."""
    minutes, seconds = divmod(abs(angle), 60)
    degrees, minutes = divmod(minutes, 60)
    sign = "-" if angle < 0 else ""
    return f"{sign}{degrees}:{minutes:02d}:{seconds:02d}"


def read_arc(text):
    """The angle of an arc text; raises PatternError if the text is none."""
    sign = -1 if text.startswith("-") else 1
    begin = 1 if sign == -1 else 0
    end = _degrees_end(text, begin)
    for at, top in enumerate(ARC_TAIL, end):
        if at == len(text) or not _fits(top, text[at]):
            raise PatternError(at)
    whole = end + len(ARC_TAIL)
    seconds = 3600 * int(text[begin:end]) + 60 * int(text[end + 1:end + 3]) + int(text[end + 4:whole])
    # There is no -0:00:00, so its last digit is wrong.
    if sign == -1 and seconds == 0:
        raise PatternError(whole - 1)
    if len(text) > whole:
        raise PatternError(whole)
    return sign * seconds


def roman(number):
    """The Roman numeral of a number from 1 to 3999."""
    letters = ""
    for n, sign in ROMAN_VALUES:
        while number >= n:
            letters = letters + sign
            number = number - n
    return letters


def read_roman(text):
    """The number of a Roman numeral; raises PatternError if the text is none."""
    number = 0
    rest = text
    for n, sign in ROMAN_VALUES:
        while rest.startswith(sign):
            number = number + n
            rest = rest[len(sign):]
            if number > GREATEST_ROMAN:
                raise PatternError(0)
    # A numeral that is not in its shortest form is none.
    if number == 0 or roman(number) != text:
        raise PatternError(0)
    return number


def _degrees_end(text, begin):
    """The index behind the degrees of an arc text that begin at an index."""
    if begin == len(text) or not "0" <= text[begin] <= "9":
        raise PatternError(begin)
    end = begin + 1
    # Nothing but the minutes follows a 0.
    if text[begin] == "0":
        return end
    while end < len(text) and end - begin < MOST_DEGREE_DIGITS and "0" <= text[end] <= "9":
        end = end + 1
    return end


def _fits(top, written):
    """True if a character can stand where the tail of an arc text has a colon or a greatest digit."""
    if top == ":":
        return written == ":"
    return "0" <= written <= top
