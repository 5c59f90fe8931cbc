"""Ways: how an index of a loop becomes an index of a line, and by strides a place in its row.

A way is a list with a part (first, at, step) for each side of the line.
"""


def straight_way(many):
    """The way of a line with so many sides by which each index stays."""
    return [(0, at, 1) for at in range(many)]


def index_by(way, at):
    """The index of the line at an index of the loop."""
    return tuple([number_by(part, at) for part in way])


def number_by(part, at):
    """The number that a part of a way tells at an index of the loop."""
    if part[1] == -1:
        return part[0]
    return part[0] + part[2] * at[part[1]]


def part_standing(number):
    """A part that hangs on no index of the loop."""
    return (number, -1, 0)


def way_turned(way, order):
    """From the way to a turn the way to the line that it turns."""
    turned = list(way)
    for side, part in zip(order, way):
        turned[side] = part
    return turned


def way_moved(way, side, begin, step):
    """From a way the one that stands at begin and step times the index along a side."""
    moved = list(way)
    moved[side] = part_moved(way[side], begin, step)
    return moved


def part_moved(part, begin, step):
    """A part at begin and step times its number."""
    first = begin + step * part[0]
    # A step of nought hangs on no index: it is written as all such parts are.
    if step * part[2] == 0:
        return part_standing(first)
    return (first, part[1], step * part[2])


def way_dropped(way, side, place):
    """From the way to a drop the way to the line that still has the side."""
    return way[:side] + [part_standing(place)] + way[side:]


def way_widened(way, side):
    """From the way to a wide the way to the line that has not got the side yet."""
    return way[:side] + way[side + 1:]


def way_spread(way, own):
    """From the way to a spread the way to the line with the sides `own` that is spread."""
    last = way[len(way) - len(own):]
    return [part_standing(0) if side == 1 else part for side, part in zip(own, last)]


def reading_by(way, strides, many):
    """The start, and the step of each of the loop's indexes (so many), of the places to which the way leads."""
    start = 0
    steps = [0 for index in range(many)]
    for part, stride in zip(way, strides):
        start = start + part[0] * stride
        if part[1] != -1:
            steps[part[1]] = steps[part[1]] + part[2] * stride
    return (start, tuple(steps))


def place_read(start, steps, at):
    """The place that a reading tells at an index of the loop."""
    return start + sum([step * number for step, number in zip(steps, at)])
