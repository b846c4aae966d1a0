"""Contacts: how near two bodies are to each other (point 45)."""

from truealmanac.events import change_events
from truealmanac.places import MILLION, coordinates, minus_of, product_of


def nearness(sky, first, second, limit):
    """The quantity that is up while two bodies are nearer to each other than a limit."""
    squares = []
    for v, w in zip(coordinates(sky, first), coordinates(sky, second)):
        apart = ("sum", v, minus_of(w))
        squares.append(product_of(apart, apart))
    return ("sum", ("number", limit * limit // MILLION), minus_of(("sum", *squares)))


def contacts(sky, first, second, limit, start, end):
    """The events "begin" and "end" of two bodies in a span."""
    return change_events(nearness(sky, first, second, limit), "begin", "end", (first, second), start, end)
