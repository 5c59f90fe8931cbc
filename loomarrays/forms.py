"""The parts of each kind of line, so that whoever reads lines reads them alike.

A part is "line" (the number of a line ahead), "number", "numbers" (a tuple of them), or a deed: "one", "both" or
"fold", by the list of deeds that it is from.
"""

FORMS = {
    "given": ("number",),
    "even": ("numbers", "number"),
    "turn": ("line", "numbers"),
    "cut": ("line", "number", "number", "number", "number"),
    "drop": ("line", "number", "number"),
    "wide": ("line", "number"),
    "spread": ("line", "numbers"),
    "shape": ("line", "numbers"),
    "shift": ("line", "number", "number", "number"),
    "one": ("one", "line"),
    "both": ("both", "line", "line"),
    "where": ("line", "line", "line"),
    "fold": ("fold", "line", "number"),
    "run": ("fold", "line", "number"),
    "pick": ("line", "number", "line"),
    "join": ("line", "line", "number"),
}

DEEDS = {
    "one": ("minus", "half", "none"),
    "both": ("add", "less", "times", "least", "most", "below", "alike"),
    "fold": ("add", "times", "least", "most"),
}


def named_by(line):
    """The numbers of the lines that a line names, one as often as it is named."""
    return [value for part, value in zip(FORMS[line[0]], line[1:]) if part == "line"]


def deed_is_known(line):
    """Whether a deed of the line, if it has one, is among those that it may have."""
    return all([value in DEEDS[part] for part, value in zip(FORMS[line[0]], line[1:]) if part in DEEDS])
