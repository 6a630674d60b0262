"""What the files about cakes need of fractions; a fraction is a tuple (n, d), in lowest terms, d from 1 on."""

from halveline.wholes import common_divisor


def lowest(n, d):
    """Tell the fraction that n / d is; d is not 0."""
    divisor = common_divisor(n, d)
    if d < 0:
        divisor = -divisor
    return (n // divisor, d // divisor)


def curve_at(curve, n, d):
    """Tell square * t * t + one * t + nought of a curve (square, one, nought) and t = n / d, times d * d."""
    square, one, nought = curve
    return square * n * n + one * n * d + nought * d * d
