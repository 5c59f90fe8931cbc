"""On which lines the answer hangs, and which of them are kept in a row of cells."""

from loomarrays.forms import named_by


def wanted_lines(program):
    """For each line whether the answer hangs on it."""
    wanted = [False for line in program]
    wanted[len(program) - 1] = True
    # Lines name only lines ahead, so from the last one backwards nothing is missed.
    for at in range(len(program) - 1, -1, -1):
        if wanted[at]:
            for named in named_by(program[at]):
                wanted[named] = True
    return wanted


def kept_lines(program, sides):
    """For each line whether it is kept, by the sides of all lines."""
    wanted = wanted_lines(program)
    kept = []
    for at, line in enumerate(program):
        kept.append(wanted[at] and is_kept(program, sides, at, naming_lines(program, wanted, at)))
    return kept


def naming_lines(program, wanted, at):
    """The wanted lines that name a line, each as often as it does."""
    naming = []
    for number, line in enumerate(program):
        if wanted[number]:
            naming.extend([number for named in named_by(line) if named == at])
    return naming


def is_kept(program, sides, at, naming):
    """Whether a wanted line is kept that is named by these."""
    kind = program[at][0]
    if at == len(program) - 1 or kind in ("given", "fold", "run", "pick"):
        return True
    if any([program[number][0] in ("shape", "pick") for number in naming]):
        return True
    if kind == "even":
        return False
    return len(naming) > 1 or any([spreads(program, sides, number, at) for number in naming])


def spreads(program, sides, number, at):
    """Whether the line of this number spreads the one at `at`, which it names, to other sides."""
    return program[number][0] in ("spread", "both", "where") and sides[number] != sides[at]
