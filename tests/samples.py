"""Skies, places and ports that several tests use. Their motions are fast, so that short spans suffice."""


def sky():
    """A new sky: a sun, a moon, a planet that turns back, and a body without terms."""
    return {
        "bodies": {
            "sun": {"motion": (1000, 1296000, 900), "terms": [(7000, 5, 1296000, 900)], "latitude": []},
            "moon": {
                "motion": (-5000, 1296000, 200),
                "terms": [(22000, 485868, 1296000, 217), (4500, 77, -1296000, 91)],
                "latitude": [(18000, 335000, 1296000, 190), (-900, 3, 1296000, 60)],
            },
            "mars": {
                "motion": (300000, 1296000, 1100),
                "terms": [(160000, 700000, 1296000, 257)],
                "latitude": [(6600, 0, 1296000, 410)],
            },
            "still": {"motion": (123, 0, 1), "terms": [], "latitude": []},
        },
        "tilt": 84381,
        "turning": (77, 1296000, 151),
    }


PLACES = [(0, 0), (180000, 40000), (-200000, -600000), (324000, 648000), (-324000, -648000)]


def port():
    """A new port."""
    return ("brest", [(2000, 9, 648000, 373), (-700, 5, 432000, 127), (300, 0, -129600, 11)])
