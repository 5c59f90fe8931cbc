"""The plain deeds: each table is made cell by cell as its line tells."""

from loomarrays.deeds import both_deed, folded, one_deed
from loomarrays.errors import NoCell
from loomarrays.keeping import wanted_lines
from loomarrays.lines import sides_of
from loomarrays.sides import index_of, indexes_of, place_at, put_in, replaced, strides_of, without
from loomarrays.tables import Table


def plain_answer(program, tables):
    """The last line's table."""
    sides = sides_of(program, [table.sides for table in tables])
    wanted = wanted_lines(program)
    made = []
    for at, line in enumerate(program):
        made.append(table_made(line, sides[at], made, tables) if wanted[at] else None)
    return made[-1]


def table_made(line, sides, made, tables):
    """A line's table by the tables made ahead of it and those that are handed in."""
    if line[0] == "given":
        return Table(sides, tables[line[1]].cells)
    if line[0] == "run":
        return Table(sides, run_cells(line[1], made[line[2]], line[3]))
    return Table(sides, [cell_made(line, sides, made, at) for at in indexes_of(sides)])


def run_cells(deed, source, side):
    """Each cell by the one ahead of it along the side, which folds all from the beginning already."""
    stride = strides_of(source.sides)[side]
    cells = []
    for place, number in enumerate(source.cells):
        begins = index_of(source.sides, place)[side] == 0
        cells.append(number if begins else both_deed(deed, cells[place - stride], number))
    return cells


def cell_made(line, sides, made, at):
    """The cell at an index of a line with these sides, but for a given and a run."""
    kind = line[0]
    if kind == "even":
        return line[2]
    if kind == "one":
        return one_deed(line[1], made[line[2]].cell(at))
    if kind == "both":
        return both_deed(line[1], spread_cell(made[line[2]], at), spread_cell(made[line[3]], at))
    if kind == "where":
        return where_cell(made[line[1]], made[line[2]], made[line[3]], at)
    if kind == "fold":
        return fold_cell(line[1], made[line[2]], line[3], at)
    if kind == "pick":
        return pick_cell(made[line[1]], line[2], made[line[3]], at)
    if kind == "join":
        return join_cell(made[line[1]], made[line[2]], line[3], at)
    if kind == "shift":
        return shift_cell(made[line[1]], line[2], line[3], line[4], at)
    if kind == "shape":
        return made[line[1]].cells[place_at(sides, at)]
    return view_cell(line, made[line[1]], at)


def view_cell(line, source, at):
    """The cell of a turn, a cut, a drop, a wide or a spread: one of the cells that it looks at."""
    kind = line[0]
    if kind == "turn":
        return source.cell(tuple([at[line[2].index(side)] for side in range(len(at))]))
    if kind == "cut":
        return source.cell(replaced(at, line[2], line[3] + line[4] * at[line[2]]))
    if kind == "drop":
        return source.cell(put_in(at, line[2], line[3]))
    if kind == "wide":
        return source.cell(without(at, line[2]))
    return spread_cell(source, at)


def spread_cell(source, at):
    """The cell of a table that is spread, at an index of the sides to which it is."""
    last = at[len(at) - len(source.sides):]
    return source.cell(tuple([0 if side == 1 else number for side, number in zip(source.sides, last)]))


def where_cell(asked, left, right, at):
    """The left one's cell where the asked one's is not nought, else the right one's."""
    return spread_cell(left if spread_cell(asked, at) != 0 else right, at)


def fold_cell(deed, source, side, at):
    """The fold of the cells along the side."""
    return folded(deed, [source.cell(put_in(at, side, place)) for place in range(source.sides[side])])


def pick_cell(source, side, numbers, at):
    """The cell at the number that stands where the index along the side is."""
    place = numbers.cell((at[side],))
    if place >= source.sides[side]:
        raise NoCell("a number to pick by is not a place of the side")
    return source.cell(replaced(at, side, place))


def join_cell(ahead, behind, side, at):
    """The cell of whichever of the two lies there along the side."""
    place = at[side]
    size = ahead.sides[side]
    return ahead.cell(at) if place < size else behind.cell(replaced(at, side, place - size))


def shift_cell(source, side, by, number, at):
    """The cell that stands so much less along the side, or the number."""
    place = at[side] - by
    return source.cell(replaced(at, side, place)) if 0 <= place < source.sides[side] else number
