"""The forms of quantities and angle expressions (points 5 and 6)."""

from truealmanac.bounds import within

LIMIT = 1000000000000
DEEPEST = 20

# What stands behind the word of an expression: v a quantity, a an angle expression, n a number,
# d a divisor. A sum is missing, since it has any number of quantities.
QUANTITY_SHAPES = {"number": "n", "wave": "a", "share": "vnd", "product": "vvd", "later": "vn"}
ANGLE_SHAPES = {"turning": "nnd", "moved": "av", "minus": "aa"}


def is_quantity(thing):
    """True if a tuple is a quantity within the bounds of point 6."""
    return _is_quantity(thing, DEEPEST)


def is_angle(thing):
    """True if a tuple is an angle expression within the bounds of point 6."""
    return _is_angle(thing, DEEPEST)


def _is_quantity(thing, deep):
    word = _word(thing)
    if word == "sum":
        shape = "v" * (len(thing) - 1)
    else:
        shape = QUANTITY_SHAPES.get(word, "")
    return _has_shape(thing, shape, deep)


def _is_angle(thing, deep):
    return _has_shape(thing, ANGLE_SHAPES.get(_word(thing), ""), deep)


def _word(thing):
    """The word of an expression, or an empty one if the thing has none."""
    if isinstance(thing, tuple) and len(thing) > 0 and isinstance(thing[0], str):
        return thing[0]
    return ""


def _has_shape(thing, shape, deep):
    """True if the parts of a thing have the shape and are together at most so deep."""
    if deep < 1 or shape == "" or len(thing) != len(shape) + 1:
        return False
    for kind, part in zip(shape, thing[1:]):
        if not _is_part(kind, part, deep - 1):
            return False
    return True


def _is_part(kind, part, deep):
    if kind == "v":
        return _is_quantity(part, deep)
    if kind == "a":
        return _is_angle(part, deep)
    if kind == "n":
        return within(part, -LIMIT, LIMIT)
    return within(part, 1, LIMIT)
