"""Flats in space, their sides, and how they divide a cloud of spots."""

from halveline.errors import NoFlat
from halveline.wholes import common_divisor, is_even_share, sign, sign_counts


def upright(one, two, three):
    """Tell a, b and c of a direction by which three spots have one value; all 0 where they lie on one line."""
    x, y, z = one
    g, h, k = (two[0] - x, two[1] - y, two[2] - z)
    u, v, w = (three[0] - x, three[1] - y, three[2] - z)
    return (h * w - k * v, k * u - g * w, g * v - h * u)


def are_aligned(one, two, three):
    """Tell whether three spots lie on one line."""
    return upright(one, two, three) == (0, 0, 0)


def flat_value(flat, spot):
    """Tell what a flat's a, b and c make of a spot."""
    return flat[0] * spot[0] + flat[1] * spot[1] + flat[2] * spot[2]


def flat_through(one, two, three):
    """Tell the one flat on which three spots are; NoFlat where they lie on one line."""
    if are_aligned(one, two, three):
        raise NoFlat("three spots on one line")
    a, b, c = upright(one, two, three)
    divisor = common_divisor(common_divisor(a, b), c)
    # Dividing by a number below 0 turns the direction about: the first that is not 0 comes above 0.
    if (a, b, c) < (0, 0, 0):
        divisor = -divisor
    lead = (a // divisor, b // divisor, c // divisor)
    return (lead[0], lead[1], lead[2], flat_value(lead, one))


def flat_side(flat, spot):
    """Tell 1 of a spot above a flat, 0 of one on it, -1 of one below it."""
    return sign(flat_value(flat, spot) - flat[3])


def flat_counts(flat, cloud):
    """Tell how many spots of a cloud are below, on and above a flat."""
    return sign_counts([flat_side(flat, spot) for spot in cloud])


def flat_halves(flat, cloud):
    """Tell whether a flat has at most half of a cloud on either side."""
    return is_even_share(flat_counts(flat, cloud))
