"""Programs written as texts, and read back."""

from loomarrays.errors import NoText
from loomarrays.forms import DEEDS, FORMS

FIGURES = "0123456789"
MOST_FIGURES = 12
NO_NUMBERS = "-"


def written_program(program):
    """The text of a program, a row for each line."""
    return "\n".join([written_line(line) for line in program])


def written_line(line):
    """The row of a line, a word for each of its parts."""
    return " ".join([written_part(part) for part in line])


def written_part(part):
    """The word of a number, a text or a tuple of numbers."""
    if not isinstance(part, tuple):
        return str(part)
    if len(part) == 0:
        return NO_NUMBERS
    return ",".join([str(number) for number in part])


def read_program(text):
    """The program of a text."""
    program = []
    for number, row in enumerate(text.split("\n")):
        line = line_read(row.split(" "))
        if line is None:
            raise NoText(number)
        program.append(line)
    return program


def line_read(words):
    """The line of a row's words, or None where they are bad."""
    kind = words[0]
    if kind not in FORMS or len(words) != 1 + len(FORMS[kind]):
        return None
    parts = [part_read(form, word) for form, word in zip(FORMS[kind], words[1:])]
    return None if any([part is None for part in parts]) else (kind,) + tuple(parts)


def part_read(form, word):
    """The part of a line that a word tells, or None where it is none of this form."""
    if form in DEEDS:
        return word if word in DEEDS[form] else None
    return numbers_read(word) if form == "numbers" else number_read(word)


def numbers_read(word):
    """The tuple of numbers that a word tells, or None."""
    if word == NO_NUMBERS:
        return ()
    numbers = [number_read(piece) for piece in word.split(",")]
    return None if any([number is None for number in numbers]) else tuple(numbers)


def number_read(word):
    """The number that a word tells, or None where it is written in another way than numbers are."""
    figures = word[1:] if word.startswith("-") else word
    if not 1 <= len(figures) <= MOST_FIGURES or not all([sign in FIGURES for sign in figures]):
        return None
    # A nought stands ahead of no others, and by itself without a sign.
    if figures[0] == "0" and word != "0":
        return None
    return int(word)
