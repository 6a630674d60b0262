"""Lines that part two heaps elsewhere than in their middles."""

from halveline.errors import NoShare
from halveline.lines import counts, through
from halveline.narrowing import turned_about
from halveline.points import place_pairs
from halveline.wholes import is_whole


def check_share(thing, least, most):
    """Refuse with NoShare a thing, whatever it is, that is no whole number from least to most."""
    if not is_whole(thing) or thing < least or thing > most:
        raise NoShare("no such number of points")


def parts(line, heap, k):
    """Tell whether a line parts a heap at k by its normal."""
    below, on, above = counts(line, heap)
    return below <= k and above <= len(heap) - k


def parting(one, k, other, m):
    """Tell an arrow, a line that parts the heaps at k and m by it, and two places on it, or None; NoShare."""
    check_share(k, 0, len(one))
    check_share(m, 0, len(other))
    for first, second in place_pairs(one + other):
        line = through(first, second)
        normal = line[:2]
        if parts(line, one, k) and parts(line, other, m):
            return (normal, line, first, second)
        # By the arrow turned about the lesser and the greater values change places, and so do k and the rest.
        if parts(line, one, len(one) - k) and parts(line, other, len(other) - m):
            return (turned_about(normal), line, first, second)
    return None
