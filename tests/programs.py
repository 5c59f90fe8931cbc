"""Programs for the tests, made by seeds, of all kinds of lines, that can be; loops told as plain tuples, and done."""

import itertools
import random

from loomarrays.errors import BadLine
from loomarrays.lines import sides_of
from loomarrays.loops import Fill, Fold, Load, Pick, Through
from loomarrays.sides import cells_in
from loomarrays.tables import Table
from loomarrays.trees import Both, Even, Joined, One, Read, Where, Within

KINDS = ("given", "even", "turn", "cut", "drop", "wide", "spread", "shape", "shift", "one", "both", "where", "fold",
         "run", "pick", "join")
# How often each is tried: what names many lines more often, so that the answer hangs on many of them.
WEIGHTS = (1, 1, 2, 3, 2, 2, 2, 2, 3, 2, 6, 6, 2, 2, 6, 6)
ONE = ("minus", "half", "none")
BOTH = ("add", "less", "times", "least", "most", "below", "alike")
FOLD = ("add", "times", "least", "most")
GIVEN_SIDES = ((2, 3), (3,), (4,), (), (1, 3), (2, 1, 2), (2, 3, 2, 2), (3, 2))
EMPTY_SIDES = ((0,), (2, 0), (0, 3), (1, 0, 2))
REST = 1000003
DOES_ONE = {"minus": lambda a: -a % REST, "half": lambda a: a // 2, "none": lambda a: int(a == 0)}
DOES_BOTH = {"add": lambda a, b: (a + b) % REST, "less": lambda a, b: (a - b) % REST,
             "times": lambda a, b: a * b % REST, "least": min, "most": max,
             "below": lambda a, b: int(a < b), "alike": lambda a, b: int(a == b)}
NUMBERS = (0, 0, 1, 2, 3, 500002, 1000002)


def factored(rng, many):
    """Some sides with so many cells."""
    if many == 0:
        return rng.choice(((0,), (0, 2), (3, 0)))
    sides = []
    while many > 1:
        size = rng.choice([size for size in range(2, many + 1) if many % size == 0])
        sides.append(size)
        many //= size
    return tuple(sides + [1] * rng.randrange(2))


def parts_of(rng, kind, sides, given):
    """The parts of a line of this kind that may be one behind lines with these sides."""
    lines = len(sides)
    a, b, c = [rng.choice((rng.randrange(lines), lines - 1, lines - 1)), rng.randrange(lines), rng.randrange(lines)]
    own = sides[a]
    side = rng.randrange(len(own) + 1)
    size = own[side] if side < len(own) else 1
    if kind == "turn":
        return (a, tuple(rng.sample(range(len(own)), len(own))))
    if kind == "cut":
        return (a, side, rng.randrange(size + 1), rng.choice((-2, -1, 1, 2)), rng.randrange(size + 1))
    if kind == "drop":
        return (a, side, rng.randrange(size + 1))
    if kind == "wide":
        return (a, side)
    if kind == "spread":
        wide = tuple(rng.choice((2, 3)) if number == 1 else number for number in own)
        return (a, tuple(rng.choice((1, 2)) for unused in range(rng.randrange(3))) + rng.choice((own, wide)))
    if kind == "shape":
        return (a, factored(rng, cells_in(own)))
    if kind == "shift":
        return (a, side, rng.choice((-5, -1, 0, 1, 2, 5)), rng.choice(NUMBERS))
    if kind == "where":
        return (a, b, c)
    return {
        "given": (rng.randrange(len(given)),),
        "even": (rng.choice(given), rng.choice(NUMBERS)),
        "one": (rng.choice(ONE), a),
        "both": (rng.choice(BOTH), a, b),
        "fold": (rng.choice(FOLD), a, side),
        "run": (rng.choice(FOLD), a, side),
        "pick": (a, side, rng.choice([at for at in range(lines) if len(sides[at]) == 1] or [b])),
        "join": (a, b, side),
    }[kind]


def program_of(seed, lines, empty=False):
    """A program of so many lines that can be, and tables for it; many of these tables' cells are places of sides."""
    rng = random.Random(seed)
    given = list(GIVEN_SIDES) + (list(EMPTY_SIDES) if empty else [])
    tables = []
    for sides in given:
        cells = [rng.choice((0, 0, 0, 1, 1, 2, rng.randrange(1000003))) for unused in range(cells_in(sides))]
        tables.append(Table(sides, cells))
    program = [("given", rng.randrange(len(given))), ("given", rng.choice((1, 2)))][:lines]
    while len(program) < lines:
        kind = rng.choices(KINDS, WEIGHTS)[0]
        line = (kind,) + parts_of(rng, kind, sides_of(program, given), given)
        try:
            sides = sides_of(program + [line], given)
        except BadLine:
            continue
        if cells_in(sides[-1]) <= 200:
            program.append(line)
    return program, tables


def tree_told(tree, names=None):
    """A tree as a tuple; its lines are called as `names` tells."""
    if isinstance(tree, Even):
        return ("even", tree.number)
    if isinstance(tree, Read):
        return ("read", tree.line if names is None else names[tree.line], tree.start, tree.steps)
    if isinstance(tree, One):
        return ("one", tree.deed, tree_told(tree.inner, names))
    if isinstance(tree, Both):
        return ("both", tree.deed, tree_told(tree.left, names), tree_told(tree.right, names))
    if isinstance(tree, Where):
        return ("where", tree_told(tree.asked, names), tree_told(tree.left, names), tree_told(tree.right, names))
    if isinstance(tree, Within):
        return ("within", tree.part, tree.size, tree_told(tree.inner, names), tree.number)
    if isinstance(tree, Joined):
        return ("joined", tree.part, tree.size, tree_told(tree.ahead, names), tree_told(tree.behind, names))
    raise AssertionError(f"{tree!r} is no tree")


def loop_told(loop, names=None):
    """A loop as a tuple; its lines are called as `names` tells."""
    line = loop.line if names is None else names[loop.line]
    if isinstance(loop, Load):
        return ("load", line, loop.sides, loop.table)
    if isinstance(loop, Fill):
        return ("fill", line, loop.sides, tree_told(loop.tree, names))
    if isinstance(loop, Fold):
        return ("fold", line, loop.sides, loop.side, loop.size, loop.deed, tree_told(loop.tree, names))
    if isinstance(loop, Through):
        return ("through", line, loop.sides, loop.side, loop.deed, tree_told(loop.tree, names))
    if isinstance(loop, Pick):
        source, places = [at if names is None else names[at] for at in (loop.source, loop.places)]
        return ("pick", line, loop.sides, loop.side, source, places, loop.source_sides)
    raise AssertionError(f"{loop!r} is no loop")


def plan_told(plan, names=None):
    """A plan as a tuple; its lines are called as `names` tells."""
    rows = {line if names is None else names[line]: row for line, row in plan.row_of.items()}
    return ([loop_told(loop, names) for loop in plan.loops], rows, list(plan.lengths))


def lines_read(told):
    """The lines that a loop or a tree, told as a tuple, reads."""
    if told[0] == "read":
        return [told[1]]
    if told[0] == "pick":
        return [told[4], told[5]]
    return [line for part in told if isinstance(part, tuple) and part and isinstance(part[0], str)
            for line in lines_read(part)]


def indexes(sides):
    """All indexes in row order."""
    return list(itertools.product(*[range(side) for side in sides]))


def number_by(part, at):
    """The number of a part of a way."""
    first, which, step = part
    return first if which == -1 else first + step * at[which]


def reckoned(tree, at, rows, done):
    """What a tree, told as a tuple, gives at an index; each deed is put into `done`.

    Rows are told by lines, and are read at their places alone.
    """
    kind = tree[0]
    if kind == "even":
        return tree[1]
    if kind == "read":
        place = tree[2] + sum(step * number for step, number in zip(tree[3], at, strict=True))
        if not 0 <= place < len(rows[tree[1]]):
            raise AssertionError(f"line {tree[1]} has no place {place}")
        return rows[tree[1]][place]
    if kind in ("one", "both", "where"):
        done.append(kind)
    if kind == "one":
        return DOES_ONE[tree[1]](reckoned(tree[2], at, rows, done))
    if kind == "both":
        return DOES_BOTH[tree[1]](reckoned(tree[2], at, rows, done), reckoned(tree[3], at, rows, done))
    if kind == "where":
        return reckoned(tree[2] if reckoned(tree[1], at, rows, done) != 0 else tree[3], at, rows, done)
    below = number_by(tree[1], at) < tree[2]
    if kind == "within":
        return reckoned(tree[3], at, rows, done) if below and number_by(tree[1], at) >= 0 else tree[4]
    return reckoned(tree[3] if below else tree[4], at, rows, done)


def folded(deed, numbers):
    """The fold of numbers."""
    number = {"add": 0, "times": 1}[deed] if not numbers else numbers[0]
    for other in numbers[1:]:
        number = DOES_BOTH[deed](number, other)
    return number


def cells_by(loop, rows, tables, done):
    """The cells that a loop, told as a tuple, writes; each deed is put into `done`."""
    kind, sides = loop[0], loop[2]
    if kind == "load":
        return list(tables[loop[3]].cells)
    if kind == "fill":
        return [reckoned(loop[3], at, rows, done) for at in indexes(sides)]
    side = loop[3]
    if kind == "fold":
        return [folded(loop[5], [reckoned(loop[6], at[:side] + (number,) + at[side:], rows, done)
                                 for number in range(loop[4])]) for at in indexes(sides)]
    if kind == "through":
        cells = {at: reckoned(loop[5], at, rows, done) for at in indexes(sides)}
        return [folded(loop[4], [cells[at[:side] + (number,) + at[side + 1:]] for number in range(at[side] + 1)])
                for at in indexes(sides)]
    source = dict(zip(indexes(loop[6]), rows[loop[4]]))
    return [source[at[:side] + (rows[loop[5]][at[side]],) + at[side + 1:]] for at in indexes(sides)]
