"""Tables: sides, and cells in row order."""

from loomarrays.deeds import is_rest
from loomarrays.errors import NoTable
from loomarrays.sides import cells_in, place_at, sides_can_be


class Table:
    """A table with copies of the sides and the cells that are handed in."""

    def __init__(self, sides, cells):
        self.sides = tuple(sides)
        self.cells = list(cells)
        if not sides_can_be(self.sides):
            raise NoTable("the sides break their bounds")
        if len(self.cells) != cells_in(self.sides):
            raise NoTable("the sides tell another count of cells")
        if not all([is_rest(number) for number in self.cells]):
            raise NoTable("a cell is out of its bounds")

    def cell(self, at):
        """The number at an index that the table has."""
        return self.cells[place_at(self.sides, at)]
