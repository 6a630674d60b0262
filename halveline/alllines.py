"""All lines through two places that halve two heaps."""

from halveline.lines import halves
from halveline.middles import joining_lines


def all_lines(one, other):
    """Tell all lines through two places of both heaps together that halve both, in order."""
    return [line for line in joining_lines(one + other) if halves(line, one) and halves(line, other)]


def are_plain(one, other):
    """Tell whether no point stands twice in both heaps together and no three points lie on one line."""
    both = one + other
    many = len(both)
    # Alike points have no line, and three on one line share theirs: either way there are fewer lines than pairs.
    return len(joining_lines(both)) == many * (many - 1) // 2
