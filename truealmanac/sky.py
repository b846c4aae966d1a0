"""Skies, bodies and their quantities (points 14, 15, 16 and 22)."""

from truealmanac.bounds import is_name, within
from truealmanac.errors import SkyError
from truealmanac.waves import QUARTER

NUMBER_LIMIT = 1000000000000
AMPLITUDE_LIMIT = 1000000000
MOST_TERMS = 20
MOST_BODIES = 8


def check_sky(sky):
    """Raise SkyError if a sky is not right."""
    bodies = sky["bodies"]
    if not 1 <= len(bodies) <= MOST_BODIES:
        raise SkyError("size", "")
    for name in sorted(bodies):
        code = _body_fault(name, bodies[name])
        if code != "":
            raise SkyError(code, name)
    if not within(sky["tilt"], 0, QUARTER):
        raise SkyError("tilt", "")
    if not _is_motion(sky["turning"]):
        raise SkyError("turning", "")


def terms_quantity(terms):
    """The quantity of a list of terms."""
    if len(terms) == 0:
        return ("number", 0)
    return ("sum", *[_term_quantity(term) for term in terms])


def longitude(sky, body):
    """The longitude of a body, an angle expression."""
    check_body(sky, body)
    told = sky["bodies"][body]
    return ("moved", ("turning", *told["motion"]), terms_quantity(told["terms"]))


def latitude(sky, body):
    """The latitude of a body, a quantity."""
    check_body(sky, body)
    return terms_quantity(sky["bodies"][body]["latitude"])


def elongation(sky, first, second):
    """The elongation of the first body from the second one, an angle expression."""
    return ("minus", longitude(sky, first), longitude(sky, second))


def check_body(sky, body):
    """Raise SkyError if a body is not in the sky."""
    if body not in sky["bodies"]:
        raise SkyError("body", body)


def _term_quantity(term):
    amplitude, s, n, d = term
    return ("share", ("wave", ("turning", s, n, d)), amplitude, 1000000)


def _body_fault(name, body):
    """The code of the first fault of a body, or an empty string."""
    if not is_name(name):
        return "name"
    if not _is_motion(body["motion"]):
        return "motion"
    if not _are_terms(body["terms"]):
        return "terms"
    if not _are_terms(body["latitude"]):
        return "latitude"
    return ""


def _is_motion(motion):
    s, n, d = motion
    numbers = within(s, -NUMBER_LIMIT, NUMBER_LIMIT) and within(n, -NUMBER_LIMIT, NUMBER_LIMIT)
    return numbers and within(d, 1, NUMBER_LIMIT)


def _are_terms(terms):
    if len(terms) > MOST_TERMS:
        return False
    for amplitude, s, n, d in terms:
        if not within(amplitude, -AMPLITUDE_LIMIT, AMPLITUDE_LIMIT) or not _is_motion((s, n, d)):
            return False
    return True
