"""What the document says, as plainly as it says it: the tests compare the program with this.

Nothing here comes from the program. Searches look at every tick.
"""

from fractions import Fraction
from math import ceil

TURN = 1296000
QUARTER = 324000


def plain_arch(u):
    q = QUARTER
    return 1000000 * u * (3 * q * q - u * u) // (2 * q * q * q)


def plain_wave(x):
    r = x % TURN
    k = r // QUARTER
    u = r - k * QUARTER
    return [plain_arch(u), plain_arch(QUARTER - u), -plain_arch(u), -plain_arch(QUARTER - u)][k]


def plain_value(e, t):
    """The value of a quantity or of an angle expression."""
    word, *parts = e
    if word == "number":
        return parts[0]
    if word == "wave":
        return plain_wave(plain_value(parts[0], t))
    if word == "sum":
        return sum(plain_value(part, t) for part in parts)
    if word == "share":
        return plain_value(parts[0], t) * parts[1] // parts[2]
    if word == "product":
        return plain_value(parts[0], t) * plain_value(parts[1], t) // parts[2]
    if word == "later":
        return plain_value(parts[0], t + parts[1])
    if word == "turning":
        return parts[0] + parts[1] * t // parts[2]
    if word == "moved":
        return plain_value(parts[0], t) + plain_value(parts[1], t)
    if word == "minus":
        return plain_value(parts[0], t) - plain_value(parts[1], t)
    raise AssertionError(word)


def plain_most(q):
    word, *parts = q
    if word == "number":
        return abs(parts[0])
    if word == "wave":
        return 1000000
    if word == "sum":
        return sum(plain_most(part) for part in parts)
    if word == "share":
        return ceil(Fraction(plain_most(parts[0]) * abs(parts[1]), parts[2]))
    if word == "product":
        return ceil(Fraction(plain_most(parts[0]) * plain_most(parts[1]), parts[2]))
    return plain_most(parts[0])


def plain_reach(e, k):
    """The reach of a quantity or of an angle expression."""
    word, *parts = e
    if word == "turning":
        return ceil(Fraction(abs(parts[1]) * k, parts[2]))
    if word in ("moved", "minus"):
        return plain_reach(parts[0], k) + plain_reach(parts[1], k)
    return min(2 * plain_most(e), _open_reach(word, parts, k))


def _open_reach(word, parts, k):
    if word == "number":
        return 0
    if word == "wave":
        far = plain_reach(parts[0], k)
        return 0 if far == 0 else 125 * far // 27 + 1
    if word == "sum":
        return sum(plain_reach(part, k) for part in parts)
    if word == "share":
        return ceil(Fraction(plain_reach(parts[0], k) * abs(parts[1]), parts[2]))
    if word == "product":
        v, w, d = parts
        both = plain_most(v) * plain_reach(w, k) + plain_most(w) * plain_reach(v, k)
        return ceil(Fraction(both, d))
    return plain_reach(parts[0], k)


def plain_changes(q, start, end):
    found = []
    before = plain_value(q, start) >= 0
    for t in range(start + 1, end + 1):
        now = plain_value(q, t) >= 0
        if now != before:
            found.append((t, "up" if now else "down"))
        before = now
    return found


def plain_passings(a, start, end):
    found = []
    for t, side in plain_changes(("wave", a), start, end):
        if plain_wave(plain_value(a, t) + QUARTER) > 0:
            found.append((t, {"up": 1, "down": -1}[side]))
    return found


def plain_time_up(q, start, end):
    return sum(1 for t in range(start, end + 1) if plain_value(q, t) >= 0)


def is_sure(q, t, k):
    w = plain_value(q, t)
    return plain_reach(q, k) <= w if w >= 0 else plain_reach(q, k) < -w


def random_quantity(rng, deep):
    """A quantity of small numbers, at most so deep."""
    if deep <= 1:
        return ("number", rng.randint(-1500000, 1500000))
    word = rng.choice(["wave", "wave", "sum", "share", "product", "later"])
    if word == "wave":
        return (word, random_angle(rng, deep - 1))
    if word == "sum":
        return (word, *[random_quantity(rng, deep - 1) for _ in range(rng.randint(1, 3))])
    v = random_quantity(rng, deep - 1)
    if word == "share":
        return (word, v, rng.randint(-1500, 1500), rng.randint(1, 1500))
    if word == "product":
        return (word, v, random_quantity(rng, deep - 1), rng.choice([1000000, 300000, 7, 999983]))
    return (word, v, rng.randint(-500, 500))


def random_angle(rng, deep):
    word = rng.choice(["turning", "turning", "moved", "minus"])
    if deep <= 1 or word == "turning":
        return ("turning", rng.randint(-2000000, 2000000), rng.randint(-90000, 90000), rng.randint(1, 30))
    if word == "moved":
        return (word, random_angle(rng, deep - 1), random_quantity(rng, deep - 1))
    return (word, random_angle(rng, deep - 1), random_angle(rng, deep - 1))


def plain_local(zone, tick):
    offset = zone[0]
    for begin, later in zone[1]:
        if begin <= tick:
            offset = later
    return tick + offset


def terms_as_told(terms):
    if not terms:
        return ("number", 0)
    return ("sum", *[("share", ("wave", ("turning", s, n, d)), amplitude, 1000000) for amplitude, s, n, d in terms])


def longitude_as_told(sky, body):
    told = sky["bodies"][body]
    return ("moved", ("turning", *told["motion"]), terms_as_told(told["terms"]))


def latitude_as_told(sky, body):
    return terms_as_told(sky["bodies"][body]["latitude"])


def elongation_as_told(sky, first, second):
    return ("minus", longitude_as_told(sky, first), longitude_as_told(sky, second))


def cosine_as_told(a):
    return ("wave", ("moved", a, ("number", 324000)))


def coordinates_as_told(sky, body):
    """x, s and z of point 18."""
    L = longitude_as_told(sky, body)
    B = ("moved", ("turning", 0, 0, 1), latitude_as_told(sky, body))
    x = ("product", cosine_as_told(B), cosine_as_told(L), 1000000)
    return x, ("product", cosine_as_told(B), ("wave", L), 1000000), ("wave", B)


def turned_coordinates_as_told(sky, body):
    """x, y and w of point 18."""
    x, s, z = coordinates_as_told(sky, body)
    E, F = plain_wave(sky["tilt"]), plain_wave(sky["tilt"] + 324000)
    y = ("sum", ("share", s, F, 1000000), ("share", z, -E, 1000000))
    return x, y, ("sum", ("share", s, E, 1000000), ("share", z, F, 1000000))


def turning_as_told(sky, place):
    """T of point 18."""
    s, n, d = sky["turning"]
    return ("turning", s + place[1], n, d)


def altitude_as_told(sky, place, body):
    x, y, w = turned_coordinates_as_told(sky, body)
    T = turning_as_told(sky, place)
    G, H = plain_wave(place[0]), plain_wave(place[0] + 324000)
    return (
        "sum",
        ("share", ("product", x, cosine_as_told(T), 1000000), H, 1000000),
        ("share", ("product", y, ("wave", T), 1000000), H, 1000000),
        ("share", w, G, 1000000),
    )


def error_of(kind, call, *arguments):
    """The fields of the error of a kind that a call raises, as a dict, or None if it raises none."""
    try:
        call(*arguments)
    except kind as error:
        return vars(error)
    return None


def replaced(items, at, item):
    """The items with another one at an index."""
    return [*items[:at], item, *items[at + 1:]]
