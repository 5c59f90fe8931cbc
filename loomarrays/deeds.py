"""Deeds with numbers, all by rests of REST."""

REST = 1000003

FOLDED_NONE = {"add": 0, "times": 1}


def is_rest(number):
    """Whether the number is a rest, as all cells are."""
    return 0 <= number < REST


def one_deed(deed, number):
    """What minus, half or none makes of a number."""
    if deed == "minus":
        return (0 - number) % REST
    if deed == "half":
        return number // 2
    return one_if(number == 0)


def both_deed(deed, one, other):
    """What add, less, times, least, most, below or alike makes of two numbers."""
    if deed == "add":
        return (one + other) % REST
    if deed == "less":
        return (one - other) % REST
    if deed == "times":
        return (one * other) % REST
    if deed == "least":
        return min(one, other)
    if deed == "most":
        return max(one, other)
    if deed == "below":
        return one_if(one < other)
    return one_if(one == other)


def folded_none(deed):
    """What a fold by add or times gives of no number."""
    return FOLDED_NONE[deed]


def folded(deed, numbers):
    """The fold of a list of numbers, from the first on."""
    if len(numbers) == 0:
        return folded_none(deed)
    number = numbers[0]
    for other in numbers[1:]:
        number = both_deed(deed, number, other)
    return number


def one_if(holds):
    """A whole number for whether something holds: True and False are none."""
    return 1 if holds else 0
