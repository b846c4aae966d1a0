"""Offsets between two clocks (point 66)."""


def offset(exchange, m):
    """The pair (low, high) that the offset of an exchange is in, or None if there is none."""
    low, high = _bounds(exchange, m)
    return None if low > high else (low, high)


def meet(exchanges, m):
    """The pair that the offset of several exchanges is in, or None if there is none."""
    pairs = [_bounds(exchange, m) for exchange in exchanges]
    # If one pair is empty, so is the meet.
    low = max([pair[0] for pair in pairs])
    high = min([pair[1] for pair in pairs])
    return None if low > high else (low, high)


def _bounds(exchange, m):
    a, b, c, d = exchange
    return (c - d + m, b - a - m)
