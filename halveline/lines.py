"""Lines, their sides, and how they divide a heap."""

from halveline.errors import NoLine
from halveline.wholes import are_whole, common_divisor, is_even_share, sign, sign_counts


def is_lead(a, b):
    """Tell whether a line may begin with these two numbers."""
    return common_divisor(a, b) == 1 and (a > 0 or (a == 0 and b == 1))


def lead(a, b):
    """Tell the two numbers with which a line of this direction begins; not of 0 and 0."""
    divisor = common_divisor(a, b)
    # Dividing by a number below 0 turns the pair about: of both ways just one leads a line.
    if a < 0 or (a == 0 and b < 0):
        divisor = -divisor
    return (a // divisor, b // divisor)


def is_line(thing):
    """Tell whether a thing, whatever it is, is a line."""
    if not isinstance(thing, tuple) or len(thing) != 3 or not are_whole(thing):
        return False
    return is_lead(thing[0], thing[1])


def through(one, other):
    """Tell the one line on which two unlike points are; NoLine of alike ones."""
    if one == other:
        raise NoLine("two alike points")
    x, y = one
    a, b = lead(other[1] - y, x - other[0])
    return (a, b, a * x + b * y)


def side(line, point):
    """Tell 1 of a point above a line, 0 of one on it, -1 of one below it."""
    a, b, c = line
    x, y = point
    return sign(a * x + b * y - c)


def counts(line, heap):
    """Tell how many points of a heap are below, on and above a line."""
    return sign_counts([side(line, point) for point in heap])


def halves(line, heap):
    """Tell whether a line has at most half of a heap on either side."""
    return is_even_share(counts(line, heap))
