"""Runs of plans: the loops are done one by one over rows of cells."""

from loomarrays.deeds import both_deed, folded, one_deed
from loomarrays.errors import NoCell
from loomarrays.loops import Fill, Fold, Load, Pick
from loomarrays.sides import cells_in, indexes_of, place_at, put_in, replaced, strides_of
from loomarrays.tables import Table
from loomarrays.trees import Both, Even, Joined, One, Read, Where
from loomarrays.ways import number_by, place_read


def run_plan(plan, tables):
    """The answer, and how many deeds were done."""
    work = Work(plan)
    for loop in plan.loops:
        work.do_loop(loop, tables)
    last = plan.loops[-1]
    cells = work.row_with(last.line)[:cells_in(last.sides)]
    return (Table(last.sides, cells), work.done)


class Work:
    """The rows of one run, and how many deeds were done in it so far."""

    def __init__(self, plan):
        self.row_of = dict(plan.row_of)
        self.rows = [[0] * length for length in plan.lengths]
        self.done = 0

    def row_with(self, line):
        """The row that a kept line has."""
        return self.rows[self.row_of[line]]

    def do_loop(self, loop, tables):
        """Writes the row of the loop's line."""
        if isinstance(loop, Load):
            self.do_load(loop, tables)
        elif isinstance(loop, Fill):
            self.do_fill(loop)
        elif isinstance(loop, Fold):
            self.do_fold(loop)
        elif isinstance(loop, Pick):
            self.do_pick(loop)
        else:
            self.do_through(loop)

    def do_load(self, loop, tables):
        """Copies the table that was handed in."""
        row = self.row_with(loop.line)
        for place, number in enumerate(tables[loop.table].cells):
            row[place] = number

    def do_fill(self, loop):
        """Reckons the tree at each index."""
        row = self.row_with(loop.line)
        for place, at in enumerate(indexes_of(loop.sides)):
            row[place] = self.number_of(loop.tree, at)

    def do_fold(self, loop):
        """Folds the tree along the side."""
        row = self.row_with(loop.line)
        for place, at in enumerate(indexes_of(loop.sides)):
            inner = [put_in(at, loop.side, number) for number in range(loop.size)]
            row[place] = folded(loop.deed, [self.number_of(loop.tree, index) for index in inner])

    def do_through(self, loop):
        """Folds all beginnings along the side, each by the one ahead of it, so that no cell is reckoned twice."""
        row = self.row_with(loop.line)
        stride = strides_of(loop.sides)[loop.side]
        for place, at in enumerate(indexes_of(loop.sides)):
            number = self.number_of(loop.tree, at)
            row[place] = number if at[loop.side] == 0 else both_deed(loop.deed, row[place - stride], number)

    def do_pick(self, loop):
        """Takes cells of the source along the side by the places."""
        row = self.row_with(loop.line)
        source = self.row_with(loop.source)
        places = self.row_with(loop.places)
        size = loop.source_sides[loop.side]
        for place, at in enumerate(indexes_of(loop.sides)):
            number = places[at[loop.side]]
            if number >= size:
                raise NoCell("a number to pick by is not a place of the side")
            row[place] = source[place_at(loop.source_sides, replaced(at, loop.side, number))]

    def number_of(self, tree, at):
        """What a tree gives at an index of its loop."""
        if isinstance(tree, Read):
            return self.row_with(tree.line)[place_read(tree.start, tree.steps, at)]
        if isinstance(tree, Even):
            return tree.number
        if isinstance(tree, One):
            self.done = self.done + 1
            return one_deed(tree.deed, self.number_of(tree.inner, at))
        if isinstance(tree, Both):
            self.done = self.done + 1
            return both_deed(tree.deed, self.number_of(tree.left, at), self.number_of(tree.right, at))
        if isinstance(tree, Where):
            self.done = self.done + 1
            asked = self.number_of(tree.asked, at)
            return self.number_of(tree.left if asked != 0 else tree.right, at)
        if isinstance(tree, Joined):
            return self.number_of(tree.ahead if number_by(tree.part, at) < tree.size else tree.behind, at)
        inside = 0 <= number_by(tree.part, at) < tree.size
        return self.number_of(tree.inner, at) if inside else tree.number
