"""The refusals of the program."""


class FloorError(ValueError):
    """Any refusal."""


class TooLarge(FloorError):
    """A floor has too many rows, or a row of too many signs."""


class Ragged(FloorError):
    """The rows of a floor have different lengths."""


class StrangeSign(FloorError):
    """A floor has a sign that is none of the four."""


class NoCell(FloorError):
    """A number is no cell of the floor."""


class NotBeside(FloorError):
    """Two cells are not beside one another."""


class Covered(FloorError):
    """A cell is covered already."""


class Uncovered(FloorError):
    """A cell is bare."""


class NoDrawing(FloorError):
    """Rows draw no laying of the floor."""
