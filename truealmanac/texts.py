"""Texts of lines, words and numbers (points 40 and 42)."""

MOST_DIGITS = 20


def words_text(parts):
    """Some words and numbers with one blank between each two."""
    return " ".join([str(part) for part in parts])


def line_text(parts):
    """A line of some words and numbers."""
    return words_text(parts) + "\n"


def lines_of(text):
    """The lines of a text, each as the list of its words."""
    lines = text.split("\n")
    rest = lines.pop()
    found = [line.split(" ") for line in lines]
    if rest != "":
        # A line without a newline is wrong whatever it says, and no line has the form of one empty word.
        found.append([""])
    return found


def is_digits(text):
    """True if a string has digits only, from 0 to 9, and at least one."""
    return len(text) > 0 and all(["0" <= letter <= "9" for letter in text])


def number_of(word):
    """The number that a word is, or None if it is none."""
    digits = word[1:] if word.startswith("-") else word
    if len(digits) > MOST_DIGITS or not is_digits(digits):
        return None
    # Only the number 0 itself begins with 0, and it has no sign.
    if digits.startswith("0") and word != "0":
        return None
    return int(word)


def numbers_of(words):
    """The list of the numbers that some words are, or None if one of them is none."""
    numbers = [number_of(word) for word in words]
    return None if None in numbers else numbers
