"""A desk that keeps heaps by names and answers rows of words."""

from halveline.alllines import all_lines
from halveline.errors import Lacking, NoName, NoRow
from halveline.keepers import grown, shrunk, stepped
from halveline.lines import counts
from halveline.pairs import halving
from halveline.pointtexts import read_line, read_point, write_heap, write_line

# How many names stand behind a row's first word, and how many words behind these; None is any number.
FORMS = {
    "heap": (1, None),
    "add": (1, 1),
    "drop": (1, 1),
    "step": (1, 2),
    "show": (1, 0),
    "line": (2, 0),
    "all": (2, 0),
    "count": (2, 0),
    "counts": (1, 3),
}


def row_words(row):
    """Tell the words of a row; NoRow of anything that is no row."""
    if not isinstance(row, str):
        raise NoRow("no text")
    words = row.split(" ")
    if "" in words or words[0] not in FORMS:
        raise NoRow("no such row")
    names, more = FORMS[words[0]]
    rest = len(words) - 1 - names
    if rest < 0 or (more is not None and rest != more):
        raise NoRow("too few or too many words")
    return words


def is_name(word):
    """Tell whether a word is a name."""
    return 1 <= len(word) <= 8 and all(["a" <= letter <= "z" for letter in word])


def check_names(names):
    """Refuse with NoName a word that is no name."""
    for name in names:
        if not is_name(name):
            raise NoName("no name")


def check_standing(heaps, names):
    """Refuse with Lacking a name by which no heap stands."""
    for name in names:
        if name not in heaps:
            raise Lacking("no heap by this name")


def heap_row(heaps, names, words):
    """Keep a heap of these points by a name, in the place of an elder one."""
    heaps[names[0]] = [read_point(word) for word in words]
    return "ok"


def add_row(heaps, names, words):
    """Let a point come to a heap."""
    heaps[names[0]] = grown(heaps[names[0]], read_point(words[0]))
    return "ok"


def drop_row(heaps, names, words):
    """Let a point go from a heap; Lacking where it isn't there."""
    heaps[names[0]] = shrunk(heaps[names[0]], read_point(words[0]))
    return "ok"


def step_row(heaps, names, words):
    """Let a point of a heap become another one; Lacking where it isn't there."""
    heaps[names[0]] = stepped(heaps[names[0]], read_point(words[0]), read_point(words[1]))
    return "ok"


def show_row(heaps, names, words):
    """Tell a heap's text."""
    return write_heap(heaps[names[0]])


def line_row(heaps, names, words):
    """Tell the text of one line that halves two heaps."""
    told = halving(heaps[names[0]], heaps[names[1]])
    return "none" if told is None else write_line(told[0])


def all_row(heaps, names, words):
    """Tell the texts of all lines of two heaps."""
    lines = all_lines(heaps[names[0]], heaps[names[1]])
    return "; ".join([write_line(line) for line in lines]) or "none"


def count_row(heaps, names, words):
    """Tell how many lines all lines of two heaps are."""
    return str(len(all_lines(heaps[names[0]], heaps[names[1]])))


def counts_row(heaps, names, words):
    """Tell how many points of a heap are below, on and above the line with these numbers; NoText of no line."""
    below, on, above = counts(read_line(" ".join(words)), heaps[names[0]])
    return f"{below} {on} {above}"


DEEDS = {
    "heap": heap_row,
    "add": add_row,
    "drop": drop_row,
    "step": step_row,
    "show": show_row,
    "line": line_row,
    "all": all_row,
    "count": count_row,
    "counts": counts_row,
}


class Desk:
    """Heaps by their names, and the rows that are said of them."""

    def __init__(self):
        self.named = {}

    def say(self, row):
        """Answer a row with a text; NoRow, NoName, Lacking, NoText, then what the functions refuse."""
        words = row_words(row)
        word = words[0]
        behind = 1 + FORMS[word][0]
        names = words[1:behind]
        check_names(names)
        # This row alone needs no heap that stands: it makes one.
        if word != "heap":
            check_standing(self.named, names)
        deed = DEEDS[word]
        return deed(self.named, names, words[behind:])
