"""The refusals of the program, each a class of its own under LoomError."""


class LoomError(ValueError):
    """Any refusal."""


class NoTable(LoomError):
    """Sides and cells that are no table."""


class NoCell(LoomError):
    """A number by which a cell is picked is not a place of the side."""


class BadLine(LoomError):
    """A program's line that cannot be: its number, and a word that says why."""

    def __init__(self, at, why):
        self.at = at
        self.why = why


class NoText(LoomError):
    """A text that is no program: its first bad row."""

    def __init__(self, row):
        self.row = row
