"""Two heaps in two rows, and the line through one point of each."""

from halveline.errors import NoRows
from halveline.lines import through
from halveline.shares import check_share


def is_row(heap, height):
    """Tell whether all points of a heap have this y."""
    return all([y == height for x, y in heap])


def row_line(one, k, other, m):
    """Tell the line through number k of the first row and number m of the second; NoRows, then NoShare."""
    if not is_row(one, 0) or not is_row(other, 1):
        raise NoRows("a point lies in another row")
    check_share(k, 1, len(one))
    check_share(m, 1, len(other))
    return through(sorted(one)[k - 1], sorted(other)[m - 1])
