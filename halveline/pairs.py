"""One line that halves two heaps, found by going through pairs of places."""

from halveline.lines import halves, through
from halveline.points import place_pairs


def halving(one, other):
    """Tell a line that halves both heaps and two places on it, or None where both have less than two places."""
    for first, second in place_pairs(one + other):
        line = through(first, second)
        if halves(line, one) and halves(line, other):
            return (line, first, second)
    return None
