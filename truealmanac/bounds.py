"""Tests of single numbers and names."""


def within(n, low, high):
    """True if n is a number from low to high."""
    # True and False would pass as 1 and 0.
    return isinstance(n, int) and not isinstance(n, bool) and low <= n <= high


def is_name(text):
    """True if a string is a name: 1 to 8 letters from a to z (point 16)."""
    if not 1 <= len(text) <= 8:
        return False
    return all(["a" <= letter <= "z" for letter in text])
