"""Where a cake is cut into halves by an arrow."""

from halveline.cakes import area, below, part_curve
from halveline.fractions import curve_at, lowest
from halveline.normals import value
from halveline.wholes import whole_root


def is_at_most_half(cake, arrow, height):
    """Tell whether at most half of a cake lies below a whole number by an arrow."""
    n, d = below(cake, arrow, height, 1)
    return 2 * n <= area(cake) * d


def cut_bounds(cake, arrow):
    """Tell two neighbouring values of corners: the cut is from the first one on, and less than the second one."""
    heights = [value(arrow, corner) for corner in cake]
    low = max([height for height in heights if is_at_most_half(cake, arrow, height)])
    high = min([height for height in heights if height > low])
    return (low, high)


def cut(cake, arrow):
    """Tell the equation whose one root from low to high is the cut of a cake, and low and high."""
    # What the equation makes of t is twice the part below t less the whole, times a number above 0: from low to high
    # it rises. The functions below rely on that, and on the cut being less than high.
    low, high = cut_bounds(cake, arrow)
    curve, divisor = part_curve(cake, arrow, low)
    square, one, nought = curve
    return (2 * square, 2 * one, 2 * nought - divisor * area(cake), low, high)


def near_cut(cake, arrow, many):
    """Tell the greatest whole number n for which n / many is not above the cut."""
    square, one, nought, low, high = cut(cake, arrow)
    least = low * many
    most = high * many
    while most - least > 1:
        half = (least + most) // 2
        if curve_at((square, one, nought), half, many) <= 0:
            least = half
        else:
            most = half
    return least


def cut_root(cake, arrow):
    """Tell whole numbers (p, r, q): the cut is p and the root of r together, divided by q."""
    square, one, nought, low, high = cut(cake, arrow)
    if square == 0:
        return (-nought, 0, one)
    # Of the two roots it is the one where the equation rises: where 2 * square * t + one is above 0.
    return (-one, one * one - 4 * square * nought, 2 * square)


def exact_cut(cake, arrow):
    """Tell the fraction that the cut is, or None where it is none."""
    p, r, q = cut_root(cake, arrow)
    root = whole_root(r)
    if root * root != r:
        return None
    return lowest(p + root, q)
