"""Texts of papers (point 62)."""

from truealmanac.errors import PaperError
from truealmanac.texts import line_text, lines_of, numbers_of


def paper_text(start, end, cells):
    """The text of a paper."""
    return line_text(("PAPER", start, end)) + "".join([line_text(cell) for cell in cells])


def read_paper(text):
    """The tuple (start, end, cells) of a text; raises PaperError if it is not that of a paper."""
    lines = lines_of(text)
    pairs = []
    for at, words in enumerate(lines):
        if at == 0 and words[0] != "PAPER":
            raise PaperError(at)
        numbers = numbers_of(words[1:] if at == 0 else words)
        if numbers is None or len(numbers) != 2:
            raise PaperError(at)
        pairs.append(tuple(numbers))
    if len(pairs) == 0:
        raise PaperError(len(lines))
    return (pairs[0][0], pairs[0][1], pairs[1:])
