"""Sides of tables: counts of cells, places in row order, and where two rows of sides meet."""

MOST_SIDES = 4
LONGEST_SIDE = 64
MOST_CELLS = 4096


def sides_can_be(sides):
    """Whether a table may have these sides."""
    if len(sides) > MOST_SIDES or not all([0 <= side <= LONGEST_SIDE for side in sides]):
        return False
    return cells_in(sides) <= MOST_CELLS


def cells_in(sides):
    """How many cells a table of these sides has."""
    many = 1
    for side in sides:
        many = many * side
    return many


def strides_of(sides):
    """For each side the product of the sides behind it."""
    backwards = []
    stride = 1
    for side in reversed(sides):
        backwards.append(stride)
        stride = stride * side
    return tuple(reversed(backwards))


def place_at(sides, at):
    """The place in row order of an index."""
    return sum([stride * number for stride, number in zip(strides_of(sides), at)])


def index_of(sides, place):
    """The index of a place in row order."""
    at = []
    rest = place
    for stride in strides_of(sides):
        # A stride is 0 only where there is no cell: nothing is refused for it, so it must not divide.
        step = max(stride, 1)
        at.append(rest // step)
        rest = rest % step
    return tuple(at)


def indexes_of(sides):
    """All indexes in row order."""
    return [index_of(sides, place) for place in range(cells_in(sides))]


def sides_met(one, other):
    """The sides in which the two meet, or None where they do not."""
    many = max(len(one), len(other))
    met = []
    for left, right in zip(with_ones_ahead(one, many), with_ones_ahead(other, many)):
        if left != right and left != 1 and right != 1:
            return None
        met.append(right if left == 1 else left)
    return tuple(met)


def with_ones_ahead(sides, many):
    """The sides made so many by sides of 1 ahead of them: a side that is not there counts as 1."""
    return [1 for missing in range(many - len(sides))] + list(sides)


def without(row, side):
    """Sides or an index without what stands at a side."""
    return row[:side] + row[side + 1:]


def put_in(row, side, number):
    """Sides or an index with a number more, put in at a side."""
    return row[:side] + (number,) + row[side:]


def replaced(row, side, number):
    """Sides or an index with another number at a side."""
    return row[:side] + (number,) + row[side + 1:]
