"""Ports and their tides (points 14, 26 and 27)."""

from truealmanac.bounds import is_name, within
from truealmanac.finder import changes
from truealmanac.sky import terms_quantity
from truealmanac.waves import QUARTER

START_LIMIT = 1000000000000
AMPLITUDE_LIMIT = 100000
SPEED_LIMIT = 1000000
MOST_TERMS = 20


def is_port(port):
    """True if a tuple of a string and a list of terms is a port."""
    name, terms = port
    if not is_name(name) or not 1 <= len(terms) <= MOST_TERMS:
        return False
    return all([_is_port_term(term) for term in terms])


def height(port):
    """The height of the water, a quantity."""
    return terms_quantity(port[1])


def flow(port):
    """The flow of the water, a quantity."""
    return ("sum", *[_term_flow(term) for term in port[1]])


def tides(port, start, end):
    """The events "high" and "low" of a port."""
    names = (port[0],)
    found = changes(flow(port), start, end)
    return [(t, "high" if side == "down" else "low", names) for t, side in found]


def _is_port_term(term):
    amplitude, s, n, d = term
    if not within(amplitude, -AMPLITUDE_LIMIT, AMPLITUDE_LIMIT) or not within(s, -START_LIMIT, START_LIMIT):
        return False
    return within(n, -SPEED_LIMIT, SPEED_LIMIT) and within(d, 1, SPEED_LIMIT)


def _term_flow(term):
    amplitude, s, n, d = term
    return ("share", ("wave", ("turning", s + QUARTER, n, d)), amplitude * n, 1000 * d)
