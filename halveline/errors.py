"""The refusals: one class each, all straight under LineError."""


class LineError(ValueError):
    """Any refusal of the program."""


class NoLine(LineError):
    """No line is told: the two points are alike."""


class Empty(LineError):
    """A heap without points has no such thing."""


class NoText(LineError):
    """The text is not what is written of such a thing."""


class NoFlat(LineError):
    """No flat is told: the three spots lie on one line."""


class NoShare(LineError):
    """No share of this heap has this number."""


class NoRows(LineError):
    """The two heaps do not stand in two rows."""


class Lacking(LineError):
    """What is asked for is not there."""


class NoRow(LineError):
    """The desk knows no such row."""


class NoName(LineError):
    """The word is no name."""
