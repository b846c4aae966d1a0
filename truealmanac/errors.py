"""The errors that the program raises (the interface of DOC.md lists them)."""


class AlmanacError(ValueError):
    """The base class of all errors of the program."""


class SkyError(AlmanacError):
    """A sky is not right, or a body or port that is asked for is none."""

    def __init__(self, code, name):
        self.code = code
        self.name = name


class DateError(AlmanacError):
    """A date is none."""

    def __init__(self, code):
        self.code = code


class LunarError(AlmanacError):
    """A moon table has no such day or date, or cannot be made."""

    def __init__(self, code):
        self.code = code


class ZoneError(AlmanacError):
    """A zone is none."""

    def __init__(self, code):
        self.code = code


class PageError(AlmanacError):
    """A text is no page; `at` is the index of the first wrong line."""

    def __init__(self, at):
        self.at = at


class SkyTextError(AlmanacError):
    """A text is not that of a sky; `at` is the index of the first wrong line."""

    def __init__(self, at):
        self.at = at


class TableError(AlmanacError):
    """A tick is not in a table, or a text is not that of a table."""

    def __init__(self, code):
        self.code = code


class PatternError(AlmanacError):
    """A text does not fit; `at` is the index of the first wrong character."""

    def __init__(self, at):
        self.at = at


class PaperError(AlmanacError):
    """A text is not that of a paper; `at` is the index of the first wrong line."""

    def __init__(self, at):
        self.at = at


class BookError(AlmanacError):
    """A text is no book; `at` is the index of the first wrong line."""

    def __init__(self, at):
        self.at = at


class FractionError(AlmanacError):
    """A number is divided by zero; the code is "zero"."""

    def __init__(self, code):
        self.code = code
