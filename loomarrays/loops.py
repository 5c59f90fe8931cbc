"""Loops: each writes the row of one kept line."""


class Loop:
    """A loop over the indexes of a kept line with these sides."""

    def __init__(self, line, sides):
        self.line = line
        self.sides = sides


class Load(Loop):
    """Copies a table that was handed in."""

    def __init__(self, line, sides, table):
        Loop.__init__(self, line, sides)
        self.table = table


class Fill(Loop):
    """Reckons a tree at each index."""

    def __init__(self, line, sides, tree):
        Loop.__init__(self, line, sides)
        self.tree = tree


class Fold(Loop):
    """Folds a tree along a side of this size, which the tree's indexes have and the line's have not."""

    def __init__(self, line, sides, side, size, deed, tree):
        Loop.__init__(self, line, sides)
        self.side = side
        self.size = size
        self.deed = deed
        self.tree = tree


class Through(Loop):
    """Folds all beginnings of a tree along a side."""

    def __init__(self, line, sides, side, deed, tree):
        Loop.__init__(self, line, sides)
        self.side = side
        self.deed = deed
        self.tree = tree


class Pick(Loop):
    """Takes cells of one kept line along a side by the cells of another, the places."""

    def __init__(self, line, sides, side, source, places, source_sides):
        Loop.__init__(self, line, sides)
        self.side = side
        self.source = source
        self.places = places
        self.source_sides = source_sides
