"""Points, heaps and lines as texts."""

from halveline.errors import NoText
from halveline.lines import is_line
from halveline.points import is_point


def write_heap(heap):
    """Tell the text of a heap: its points in their order."""
    return " ".join([f"{x},{y}" for x, y in heap])


def write_line(line):
    """Tell the text of a line."""
    a, b, c = line
    return f"{a} {b} {c}"


def split_text(text, mark):
    """Tell the words of a text between which a mark stands; NoText of what is no text."""
    if not isinstance(text, str):
        raise NoText("no text")
    return text.split(mark)


def read_number(word):
    """Tell the number that str writes as this word; NoText where there is none."""
    try:
        number = int(word)
        written = str(number)
    except ValueError:
        raise NoText("no number") from None
    # Python reads more than it writes: blanks, underlines, signs and figures of other scripts.
    if written != word:
        raise NoText("a number that is written otherwise")
    return number


def read_numbers(text, mark):
    """Tell a tuple of the numbers in a text between which a mark stands."""
    return tuple([read_number(word) for word in split_text(text, mark)])


def read_point(text):
    """Tell the point that is written so; NoText of anything else."""
    point = read_numbers(text, ",")
    if not is_point(point):
        raise NoText("no point")
    return point


def read_heap(text):
    """Tell the heap that is written so; NoText of anything else."""
    words = split_text(text, " ")
    # The text without signs has one word without signs, not none.
    if words == [""]:
        return []
    return [read_point(word) for word in words]


def read_line(text):
    """Tell the line that is written so; NoText of anything else."""
    line = read_numbers(text, " ")
    if not is_line(line):
        raise NoText("no line")
    return line
