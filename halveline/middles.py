"""One heap, seen from all directions in turn."""

from halveline.errors import Empty
from halveline.lines import halves, through
from halveline.normals import lines_in_order, value
from halveline.points import place_pairs, places


def middle(heap, normal):
    """Tell the lowest and the highest c of the lines with this normal that halve a heap; Empty without points."""
    if not heap:
        raise Empty("a heap without points has no middle")
    many = len(heap)
    values = sorted([value(normal, point) for point in heap])
    return (values[(many - 1) // 2], values[many // 2])


def joining_lines(heap):
    """Tell all lines through two places of a heap, each once, in order."""
    return lines_in_order(sorted({through(one, other) for one, other in place_pairs(heap)}))


def slopes(heap):
    """Tell the normals of all lines through two places of a heap, each once, in order."""
    # The lines come in the order of their normals, and a dict keeps the order of its keys.
    return list({(a, b): True for a, b, c in joining_lines(heap)})


def rank(heap, normal):
    """Tell the places of a heap by rising value, those of one value in one list."""
    rows = {}
    for place in places(heap):
        rows.setdefault(value(normal, place), []).append(place)
    return [rows[height] for height in sorted(rows)]


def bisectors(heap):
    """Tell all lines through two places of a heap that halve it, in order."""
    return [line for line in joining_lines(heap) if halves(line, heap)]
