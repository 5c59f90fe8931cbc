"""Programs looked over line by line: the sides of each line, or the first line that cannot be."""

from loomarrays.deeds import is_rest
from loomarrays.errors import BadLine
from loomarrays.forms import deed_is_known, named_by
from loomarrays.sides import cells_in, put_in, replaced, sides_can_be, sides_met, without

MOST_LINES = 40


def sides_of(program, given):
    """The sides of all lines, by the sides of the tables that are handed in."""
    if len(program) == 0:
        raise BadLine(0, "many")
    if len(program) > MOST_LINES:
        raise BadLine(MOST_LINES, "many")
    ahead = []
    for at, line in enumerate(program):
        ahead.append(sides_looked_over(at, line, ahead, given))
    return ahead


def sides_looked_over(at, line, ahead, given):
    """The sides of one line that can be; `ahead` are the sides of the lines ahead of it."""
    if not places_are_there(line, len(ahead), len(given)):
        raise BadLine(at, "place")
    if not number_is_cell(line):
        raise BadLine(at, "number")
    sides = sides_told(line, ahead, given) if deed_is_known(line) else None
    if sides is None or not sides_can_be(sides):
        raise BadLine(at, "sides")
    return sides


def places_are_there(line, lines_ahead, tables):
    """Whether all lines that it names are ahead, and the table that it names is handed in."""
    if line[0] == "given":
        return 0 <= line[1] < tables
    return all([0 <= named < lines_ahead for named in named_by(line)])


def number_is_cell(line):
    """Whether the number of an even or a shift can be a cell; other lines have none."""
    if line[0] == "even":
        return is_rest(line[2])
    return line[0] != "shift" or is_rest(line[4])


def sides_told(line, ahead, given):
    """The line's sides, or None where something is not as its kind asks; their bounds are not looked at."""
    kind = line[0]
    if kind == "given":
        return given[line[1]]
    if kind == "even":
        return line[1]
    if kind == "one":
        return ahead[line[2]]
    if kind == "both":
        return sides_met(ahead[line[2]], ahead[line[3]])
    if kind == "where":
        return three_met(ahead[line[1]], ahead[line[2]], ahead[line[3]])
    if kind == "fold":
        return folded_sides(line[1], ahead[line[2]], line[3])
    if kind == "run":
        return ahead[line[2]] if has_side(ahead[line[2]], line[3]) else None
    if kind == "pick":
        return picked_sides(ahead[line[1]], line[2], ahead[line[3]])
    if kind == "join":
        return joined_sides(ahead[line[1]], ahead[line[2]], line[3])
    if kind == "shift":
        return ahead[line[1]] if has_side(ahead[line[1]], line[2]) else None
    return sides_viewed(line, ahead[line[1]])


def sides_viewed(line, sides):
    """The same for the kinds that only look at the cells of one line, with these sides."""
    kind = line[0]
    if kind == "turn":
        return turned_sides(sides, line[2])
    if kind == "cut":
        return cut_sides(sides, line[2], line[3], line[4], line[5])
    if kind == "drop":
        return dropped_sides(sides, line[2], line[3])
    if kind == "wide":
        return put_in(sides, line[2], 1) if 0 <= line[2] <= len(sides) else None
    if kind == "spread":
        return line[2] if sides_met(sides, line[2]) == line[2] else None
    return line[2] if cells_in(sides) == cells_in(line[2]) else None


def has_side(sides, side):
    """Whether there is such a side."""
    return 0 <= side < len(sides)


def has_place(sides, side, place):
    """Whether there is such a side, and such a place in it."""
    return has_side(sides, side) and 0 <= place < sides[side]


def turned_sides(sides, order):
    """The sides in another order."""
    if sorted(order) != list(range(len(sides))):
        return None
    return tuple([sides[side] for side in order])


def cut_sides(sides, side, begin, step, many):
    """The sides with so many places along one of them."""
    if not has_side(sides, side) or step == 0 or many < 0:
        return None
    # The first and the last place tell for all: those between lie between.
    if many > 0 and not (has_place(sides, side, begin) and has_place(sides, side, begin + step * (many - 1))):
        return None
    return replaced(sides, side, many)


def dropped_sides(sides, side, place):
    """The sides without one, of which one place is taken."""
    return without(sides, side) if has_place(sides, side, place) else None


def three_met(one, other, third):
    """The sides in which three meet."""
    met = sides_met(one, other)
    return None if met is None else sides_met(met, third)


def folded_sides(deed, sides, side):
    """The sides without the one that is folded; least and most of no number are nothing."""
    if not has_side(sides, side):
        return None
    if sides[side] == 0 and deed in ("least", "most"):
        return None
    return without(sides, side)


def picked_sides(sides, side, places):
    """The sides with as many places along one of them as there are numbers to pick by."""
    if not has_side(sides, side) or len(places) != 1:
        return None
    return replaced(sides, side, places[0])


def joined_sides(one, other, side):
    """The sides of two tables one behind the other along a side."""
    if not has_side(one, side) or len(one) != len(other):
        return None
    if without(one, side) != without(other, side):
        return None
    return replaced(one, side, one[side] + other[side])
