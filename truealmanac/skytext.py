"""Texts of skies (point 42)."""

from truealmanac.bounds import is_name
from truealmanac.errors import SkyTextError
from truealmanac.texts import line_text, lines_of, numbers_of

# How many numbers a line with each word has.
COUNTS = {"TILT": 1, "TURNING": 3, "BODY": 3, "TERM": 4, "LATITUDE": 4}


def sky_text(sky):
    """The text of a sky."""
    lines = [line_text(("TILT", sky["tilt"])), line_text(("TURNING", *sky["turning"]))]
    for name in sorted(sky["bodies"]):
        body = sky["bodies"][name]
        lines.append(line_text(("BODY", name, *body["motion"])))
        lines.extend([line_text(("TERM", *term)) for term in body["terms"]])
        lines.extend([line_text(("LATITUDE", *term)) for term in body["latitude"]])
    return "".join(lines)


def read_sky(text):
    """The sky of a text, right or not; raises SkyTextError if the text is that of none."""
    lines = lines_of(text)
    told = []
    bodies = []
    for at, words in enumerate(lines):
        numbers = _numbers_behind(words)
        if numbers is None or not _may_stand(at, words, bodies):
            raise SkyTextError(at)
        told.append(tuple(numbers))
        if words[0] == "BODY":
            bodies.append((words[1], {"motion": told[at], "terms": [], "latitude": []}))
        elif words[0] == "TERM":
            bodies[-1][1]["terms"].append(told[at])
        elif words[0] == "LATITUDE":
            bodies[-1][1]["latitude"].append(told[at])
    if len(bodies) == 0:
        raise SkyTextError(len(lines))
    return {"bodies": dict(bodies), "tilt": told[0][0], "turning": told[1]}


def _numbers_behind(words):
    """The numbers of a line, or None if its words do not have the form of a line."""
    begin = 2 if words[0] == "BODY" else 1
    numbers = numbers_of(words[begin:])
    if numbers is None or len(numbers) != COUNTS.get(words[0], -1):
        return None
    return numbers


def _may_stand(at, words, bodies):
    """True if a line of the right form may stand at an index, behind some bodies (name, body)."""
    word = words[0]
    if at == 0:
        return word == "TILT"
    if at == 1:
        return word == "TURNING"
    if word == "BODY":
        return is_name(words[1]) and (len(bodies) == 0 or words[1] > bodies[-1][0])
    if len(bodies) == 0:
        return False
    if word == "TERM":
        return len(bodies[-1][1]["latitude"]) == 0
    return word == "LATITUDE"
