"""Places, the eighteen directions, and the turn of two of them.

A direction is kept as its three steps (east, north, up). A length p + q r is the pair (p, q), in 1/2000 of a
millimetre; a place is three lengths.
"""

STEPS = {
    "e": (1, 0, 0), "w": (-1, 0, 0), "n": (0, 1, 0), "s": (0, -1, 0), "u": (0, 0, 1), "d": (0, 0, -1),
    "ne": (1, 1, 0), "se": (1, -1, 0), "nw": (-1, 1, 0), "sw": (-1, -1, 0),
    "eu": (1, 0, 1), "ed": (1, 0, -1), "wu": (-1, 0, 1), "wd": (-1, 0, -1),
    "nu": (0, 1, 1), "nd": (0, 1, -1), "su": (0, -1, 1), "sd": (0, -1, -1),
}

# Degrees by the sum of the products of the steps, for two directions that have 2, 3 or 4 axes together.
TURN_OF_TWO_AXES = {1: 0, 0: 90, -1: 180}
TURN_OF_THREE_AXES = {1: 45, 0: 90, -1: 135}
TURN_OF_FOUR_AXES = {2: 0, 1: 60, 0: 90, -1: 120, -2: 180}

UNITS_ALONG_AN_AXIS = 2000
UNITS_ASLANT = 1000


def is_direction(word):
    return word in STEPS


def direction_of(word):
    return STEPS[word]


def opposite(direction):
    return tuple([-step for step in direction])


def axes(direction):
    return sum([abs(step) for step in direction])


def turn(one, other):
    """The angle between two directions in degrees."""
    product = sum([a * b for a, b in zip(one, other)])
    together = axes(one) + axes(other)
    if together == 2:
        return TURN_OF_TWO_AXES[product]
    if together == 3:
        return TURN_OF_THREE_AXES[product]
    return TURN_OF_FOUR_AXES[product]


def place_at(x, y, z):
    """The place at these whole millimetres."""
    return tuple([(UNITS_ALONG_AN_AXIS * number, 0) for number in (x, y, z)])


def gone(place, direction, millimetres):
    """The place that is come to by going so far from a place."""
    whole = 0
    rooted = 0
    if axes(direction) == 1:
        whole = UNITS_ALONG_AN_AXIS * millimetres
    else:
        rooted = UNITS_ASLANT * millimetres
    return tuple([(length[0] + whole * step, length[1] + rooted * step) for length, step in zip(place, direction)])
