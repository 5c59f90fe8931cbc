"""Plans: a program written into loops over rows of cells that are used again."""

from loomarrays.keeping import kept_lines
from loomarrays.lines import sides_of
from loomarrays.loops import Fill, Fold, Load, Pick, Through
from loomarrays.sides import cells_in, strides_of
from loomarrays.trees import Both, Even, Joined, One, Read, Where, Within
from loomarrays.ways import reading_by, straight_way, way_dropped, way_moved, way_spread, way_turned, way_widened


class Plan:
    """The loops, the row of each kept line, and how many cells each row has."""

    def __init__(self, loops, row_of, lengths):
        self.loops = list(loops)
        self.row_of = dict(row_of)
        self.lengths = list(lengths)


def plan_of(program, given):
    """The plan of a program, by the sides of the tables that will be handed in."""
    sides = sides_of(program, given)
    kept = kept_lines(program, sides)
    loops = [loop_of(program, sides, kept, at) for at in range(len(program)) if kept[at]]
    row_of = rows_of(loops)
    return Plan(loops, row_of, lengths_of(loops, row_of))


def loop_of(program, sides, kept, at):
    """The loop that writes a kept line."""
    line = program[at]
    own = sides[at]
    kind = line[0]
    if kind == "given":
        return Load(at, own, line[1])
    if kind == "pick":
        return Pick(at, own, line[2], line[1], line[3], sides[line[1]])
    if kind == "fold":
        inner = sides[line[2]]
        tree = Weaver(program, sides, kept, len(inner)).tree_named(line[2], straight_way(len(inner)))
        return Fold(at, own, line[3], inner[line[3]], line[1], tree)
    weaver = Weaver(program, sides, kept, len(own))
    if kind == "run":
        return Through(at, own, line[3], line[1], weaver.tree_named(line[2], straight_way(len(own))))
    return Fill(at, own, weaver.tree_made(at, straight_way(len(own))))


class Weaver:
    """Makes the trees of one loop, whose indexes have so many numbers."""

    def __init__(self, program, sides, kept, many):
        self.program = program
        self.sides = sides
        self.kept = kept
        self.many = many

    def tree_named(self, at, way):
        """The tree of a line that is named, to which the way leads: what is kept is read."""
        if self.kept[at]:
            return self.row_read(at, way, self.sides[at])
        return self.tree_made(at, way)

    def row_read(self, at, way, sides):
        """A kept line's row, as if it lay under these sides, to which the way leads."""
        reading = reading_by(way, strides_of(sides), self.many)
        return Read(at, reading[0], reading[1])

    def tree_made(self, at, way):
        """The tree that reckons a line's cell at the index to which the way leads."""
        line = self.program[at]
        kind = line[0]
        if kind == "even":
            return Even(line[2])
        if kind == "one":
            return One(line[1], self.tree_named(line[2], way))
        if kind == "both":
            return Both(line[1], self.tree_spread(line[2], way), self.tree_spread(line[3], way))
        if kind == "where":
            return Where(self.tree_spread(line[1], way), self.tree_spread(line[2], way),
                         self.tree_spread(line[3], way))
        if kind == "shift":
            return self.tree_shifted(line[1], line[2], line[3], line[4], way)
        if kind == "join":
            return self.tree_joined(line[1], line[2], line[3], way)
        if kind == "shape":
            # What a shape names is kept, and its cells stand in the same row order under the shape's sides.
            return self.row_read(line[1], way, self.sides[at])
        return self.tree_viewed(line, way)

    def tree_viewed(self, line, way):
        """The tree of what a turn, a cut, a drop, a wide or a spread looks at."""
        kind = line[0]
        if kind == "turn":
            return self.tree_named(line[1], way_turned(way, line[2]))
        if kind == "cut":
            return self.tree_named(line[1], way_moved(way, line[2], line[3], line[4]))
        if kind == "drop":
            return self.tree_named(line[1], way_dropped(way, line[2], line[3]))
        if kind == "wide":
            return self.tree_named(line[1], way_widened(way, line[2]))
        return self.tree_spread(line[1], way)

    def tree_spread(self, at, way):
        """The tree of a line that is spread to the sides to which the way leads."""
        return self.tree_named(at, way_spread(way, self.sides[at]))

    def tree_shifted(self, at, side, by, number, way):
        """The tree of a line so much less along the side, where it has such a place, else the number."""
        moved = way_moved(way, side, -by, 1)
        return Within(moved[side], self.sides[at][side], self.tree_named(at, moved), number)

    def tree_joined(self, ahead, behind, side, way):
        """The tree of whichever of the two lines lies there along the side."""
        size = self.sides[ahead][side]
        moved = way_moved(way, side, -size, 1)
        return Joined(way[side], size, self.tree_named(ahead, way), self.tree_named(behind, moved))


def lines_read_in(tree):
    """The kept lines that a tree reads."""
    if isinstance(tree, Read):
        return [tree.line]
    if isinstance(tree, (One, Within)):
        return lines_read_in(tree.inner)
    if isinstance(tree, Both):
        return lines_read_in(tree.left) + lines_read_in(tree.right)
    if isinstance(tree, Where):
        return lines_read_in(tree.asked) + lines_read_in(tree.left) + lines_read_in(tree.right)
    if isinstance(tree, Joined):
        return lines_read_in(tree.ahead) + lines_read_in(tree.behind)
    return []


def lines_read_by(loop):
    """The kept lines that a loop reads."""
    if isinstance(loop, Load):
        return []
    if isinstance(loop, Pick):
        return [loop.source, loop.places]
    return lines_read_in(loop.tree)


def last_readings(loops):
    """For each line that is read, which loop is the last one that reads it."""
    last = {}
    for at, loop in enumerate(loops):
        for line in lines_read_by(loop):
            last[line] = at
    return last


def rows_of(loops):
    """For each kept line the lowest row that is needed by none when its loop writes it."""
    last = last_readings(loops)
    row_of = {}
    for at, loop in enumerate(loops):
        # Each line but the answer, the last one, is read: what nothing would read is not kept.
        needed = [row_of[line] for line in row_of if last[line] >= at]
        row_of[loop.line] = lowest_beside(needed)
    return row_of


def lowest_beside(rows):
    """The lowest row that is none of these."""
    row = 0
    while row in rows:
        row = row + 1
    return row


def lengths_of(loops, row_of):
    """How long each row is: as long as the longest table that is written into it."""
    lengths = [0 for row in range(max(row_of.values()) + 1)]
    for loop in loops:
        row = row_of[loop.line]
        lengths[row] = max(lengths[row], cells_in(loop.sides))
    return lengths
