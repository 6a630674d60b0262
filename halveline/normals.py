"""Normals: the directions of lines, and their order."""

from halveline.lines import is_lead, lead
from halveline.wholes import are_whole


def is_normal(thing):
    """Tell whether a thing, whatever it is, is a normal."""
    if not isinstance(thing, tuple) or len(thing) != 2 or not are_whole(thing):
        return False
    return is_lead(thing[0], thing[1])


def value(normal, point):
    """Tell the value of a point by a normal, or by an arrow."""
    return normal[0] * point[0] + normal[1] * point[1]


def cross(one, other):
    """Tell a number above 0 where the second direction lies to the left of the first, below 0 to the right."""
    return one[0] * other[1] - one[1] * other[0]


def is_ahead(one, other):
    """Tell whether the first of two normals is ahead of the second."""
    return cross(one, other) > 0


def between(one, other):
    """Tell the normal between two unlike ones, the first ahead of the second."""
    return lead(one[0] + other[0], one[1] + other[1])


def line_key(line, scale):
    """Tell what sorts lines in their order, where scale is no less than the square of each a."""
    a, b, c = line
    if a == 0:
        return (1, 0, c)
    # Two unlike fractions b / a lie at least 1 / scale apart, so scale times them have unlike whole parts.
    return (0, b * scale // a, c)


def lines_in_order(lines):
    """Tell a list of the same lines in the order of their normals, those of one normal by rising c."""
    scale = max([a * a for a, b, c in lines], default=0)
    return sorted(lines, key=lambda line: line_key(line, scale))
