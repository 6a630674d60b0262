"""Cakes, their area, and the part of one that lies below a fraction by an arrow."""

from halveline.fractions import curve_at, lowest
from halveline.normals import cross, value
from halveline.points import is_heap, turn


def from_each_corner(corners):
    """Tell the list of corners begun at each of them in turn."""
    return [corners[at:] + corners[:at] for at in range(len(corners))]


def is_cake(thing):
    """Tell whether a list of points is a cake."""
    if not is_heap(thing) or len(thing) < 3:
        return False
    return all([turn(start, end, corner) == 1 for start, end, *rest in from_each_corner(thing) for corner in rest])


def sides(corners):
    """Tell the ways from each corner to the next one, as pairs of corners."""
    return [(start, end) for start, end, *rest in from_each_corner(corners)]


def area(cake):
    """Tell twice the area of a cake."""
    return sum([cross(start, end) for start, end in sides(cake)])


def side_part(start, end, low):
    """Tell what one side, seen by an arrow, adds to the curve of the part below t, and what divides it."""
    least = min(start[0], end[0])
    most = max(start[0], end[0])
    across = end[1] - start[1]
    if least > low:
        return (0, 0, 0, 1)
    if most <= low:
        return (0, -2 * across, (least + most) * across, 1)
    return (-across, 2 * least * across, -least * least * across, most - least)


def part_curve(cake, arrow, low):
    """Tell a curve and its divisor: the twofold part below t, for each t from low to the next corner above low."""
    # Seen by the arrow a corner has its value and how far to the left it lies; areas are stretched by a * a + b * b.
    # The area is what 2 * (value - t) makes along the sides as far as they lie below t: the way back along t itself
    # adds nothing. So each side adds a curve in t, and its form depends only on where its ends lie.
    seen = [(value(arrow, corner), cross(arrow, corner)) for corner in cake]
    square, one, nought, divisor = (0, 0, 0, 1)
    for start, end in sides(seen):
        more_square, more_one, more_nought, more_divisor = side_part(start, end, low)
        square = square * more_divisor + more_square * divisor
        one = one * more_divisor + more_one * divisor
        nought = nought * more_divisor + more_nought * divisor
        divisor = divisor * more_divisor
    return ((square, one, nought), divisor * value(arrow, arrow))


def below(cake, arrow, n, d):
    """Tell the twofold area of the part of a cake below n / d by an arrow, as a fraction."""
    # The values of corners are whole numbers: those up to n / d are those up to its whole part.
    curve, divisor = part_curve(cake, arrow, n // d)
    return lowest(curve_at(curve, n, d), divisor * d * d)
