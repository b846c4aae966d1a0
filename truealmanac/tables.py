"""Tables of values and their texts (points 48 and 49)."""

from truealmanac.errors import TableError
from truealmanac.plans import Plan
from truealmanac.reaches import reach
from truealmanac.texts import line_text, lines_of, number_of, numbers_of


def table_of(q, start, step, count):
    """The table of so many values of a quantity."""
    plan = Plan(q)
    return (start, step, tuple([plan.value(start + step * at) for at in range(count)]))


def between(table, tick):
    """The told value of a table at a tick; raises TableError if the tick is not in it."""
    start, step, values = table
    if not start <= tick <= start + step * (len(values) - 1):
        raise TableError("range")
    at, behind = divmod(tick - start, step)
    if behind == 0:
        return values[at]
    return (values[at] * (step - behind) + values[at + 1] * behind) // step


def remainder(q, step):
    """The number by which told values of a quantity differ from its values at most."""
    return reach(q, step - 1)


def table_text(table):
    """The text of a table."""
    start, step, values = table
    return line_text(("TABLE", start, step)) + "".join([line_text((w,)) for w in values])


def read_table(text):
    """The table of a text; raises TableError if the text is that of none."""
    lines = lines_of(text)
    if len(lines) < 2:
        raise TableError("text")
    head = numbers_of(lines[0][1:])
    if lines[0][0] != "TABLE" or head is None or len(head) != 2 or head[1] < 1:
        raise TableError("text")
    values = [number_of(words[0]) if len(words) == 1 else None for words in lines[1:]]
    if None in values:
        raise TableError("text")
    return (head[0], head[1], tuple(values))
