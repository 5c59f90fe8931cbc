"""Points 5 and 6: the sides of all lines, and the first line that cannot be."""

import itertools
import unittest

from loomarrays.errors import BadLine, LoomError, NoCell, NoTable, NoText
from loomarrays.lines import sides_of

LAST = 1000002
# The lines ahead: a table of each count of sides, told by evens.
AHEAD_SIDES = ((), (3,), (2, 3), (2, 3, 5), (2, 3, 4, 5), (0,), (2, 0), (1,), (1, 3), (64,), (64, 64))
AHEAD = [("even", sides, 7) for sides in AHEAD_SIDES]
PLACE = {sides: place for place, sides in enumerate(AHEAD_SIDES)}
NOW = len(AHEAD)
SCALAR, THREE, TWO_THREE = PLACE[()], PLACE[(3,)], PLACE[(2, 3)]
CUBE, FOUR = PLACE[(2, 3, 5)], PLACE[(2, 3, 4, 5)]
NOTHING, TWO_NONE, SINGLE, ONE_THREE = PLACE[(0,)], PLACE[(2, 0)], PLACE[(1,)], PLACE[(1, 3)]
LONG, FULL = PLACE[(64,)], PLACE[(64, 64)]
GIVEN = [(2, 2), (), (0, 5)]


class Lines(unittest.TestCase):
    def told(self, line, sides):
        answer = sides_of(AHEAD + [line], GIVEN)
        self.assertIs(type(answer), list)
        self.assertEqual(answer, list(AHEAD_SIDES) + [sides], line)
        self.assertIs(type(answer[-1]), tuple, line)

    def refused(self, line, why):
        self.refused_at(AHEAD + [line], NOW, why)

    def refused_at(self, program, at, why, given=GIVEN):
        with self.assertRaises(BadLine, msg=program) as taken:
            sides_of(program, given)
        self.assertEqual((taken.exception.at, taken.exception.why), (at, why), program)


class LinesThatCanBe(Lines):
    def test_given(self):
        self.told(("given", 0), (2, 2))
        self.told(("given", 1), ())
        self.told(("given", 2), (0, 5))

    def test_even(self):
        for sides in ((), (0,), (1,), (64,), (64, 64), (8, 8, 8, 8), (64, 64, 64, 0), (1, 1, 1, 1)):
            self.told(("even", sides, 0), sides)
            self.told(("even", sides, LAST), sides)

    def test_turn(self):
        self.told(("turn", SCALAR, ()), ())
        self.told(("turn", THREE, (0,)), (3,))
        self.told(("turn", TWO_THREE, (1, 0)), (3, 2))
        self.told(("turn", TWO_THREE, (0, 1)), (2, 3))
        self.told(("turn", CUBE, (2, 0, 1)), (5, 2, 3))
        self.told(("turn", FOUR, (3, 1, 0, 2)), (5, 3, 2, 4))
        self.told(("turn", TWO_NONE, (1, 0)), (0, 2))
        for order in itertools.permutations(range(4)):
            self.told(("turn", FOUR, order), tuple((2, 3, 4, 5)[side] for side in order))

    def test_cut(self):
        self.told(("cut", THREE, 0, 0, 1, 3), (3,))
        self.told(("cut", THREE, 0, 2, -1, 3), (3,))
        self.told(("cut", THREE, 0, 2, 5, 1), (1,))
        self.told(("cut", THREE, 0, 0, -9, 1), (1,))
        self.told(("cut", LONG, 0, 0, 21, 4), (4,))
        self.told(("cut", LONG, 0, 63, -21, 4), (4,))
        self.told(("cut", CUBE, 0, 1, 1, 1), (1, 3, 5))
        self.told(("cut", CUBE, 1, 0, 2, 2), (2, 2, 5))
        self.told(("cut", CUBE, 2, 4, -2, 3), (2, 3, 3))
        self.told(("cut", FULL, 1, 63, -1, 64), (64, 64))

    def test_a_cut_of_no_places_may_begin_anywhere(self):
        for begin, step in itertools.product((-5, 0, 2, 3, 100), (-7, -1, 1, 64)):
            self.told(("cut", TWO_THREE, 1, begin, step, 0), (2, 0))
            self.told(("cut", NOTHING, 0, begin, step, 0), (0,))

    def test_drop(self):
        self.told(("drop", THREE, 0, 0), ())
        self.told(("drop", THREE, 0, 2), ())
        self.told(("drop", CUBE, 0, 1), (3, 5))
        self.told(("drop", CUBE, 1, 2), (2, 5))
        self.told(("drop", CUBE, 2, 4), (2, 3))
        self.told(("drop", TWO_NONE, 0, 1), (0,))

    def test_wide(self):
        self.told(("wide", SCALAR, 0), (1,))
        self.told(("wide", THREE, 0), (1, 3))
        self.told(("wide", THREE, 1), (3, 1))
        self.told(("wide", CUBE, 1), (2, 1, 3, 5))
        self.told(("wide", CUBE, 3), (2, 3, 5, 1))
        self.told(("wide", NOTHING, 1), (0, 1))

    def test_spread(self):
        self.told(("spread", SCALAR, ()), ())
        self.told(("spread", SCALAR, (4, 5)), (4, 5))
        self.told(("spread", SCALAR, (0,)), (0,))
        self.told(("spread", THREE, (3,)), (3,))
        self.told(("spread", THREE, (2, 3)), (2, 3))
        self.told(("spread", THREE, (0, 3)), (0, 3))
        self.told(("spread", SINGLE, (64,)), (64,))
        self.told(("spread", SINGLE, (0,)), (0,))
        self.told(("spread", ONE_THREE, (7, 3)), (7, 3))
        self.told(("spread", ONE_THREE, (2, 4, 5, 3)), (2, 4, 5, 3))
        self.told(("spread", NOTHING, (9, 0)), (9, 0))

    def test_shape(self):
        self.told(("shape", SCALAR, ()), ())
        self.told(("shape", SCALAR, (1, 1)), (1, 1))
        self.told(("shape", SINGLE, ()), ())
        self.told(("shape", CUBE, (30,)), (30,))
        self.told(("shape", CUBE, (5, 6)), (5, 6))
        self.told(("shape", FOUR, (2, 60)), (2, 60))
        self.told(("shape", FULL, (8, 8, 8, 8)), (8, 8, 8, 8))
        self.told(("shape", NOTHING, (5, 0)), (5, 0))
        self.told(("shape", TWO_NONE, (0,)), (0,))

    def test_shift(self):
        for by in (-100, -1, 0, 1, 100):
            self.told(("shift", CUBE, 0, by, 0), (2, 3, 5))
            self.told(("shift", CUBE, 2, by, LAST), (2, 3, 5))
            self.told(("shift", TWO_NONE, 1, by, 4), (2, 0))

    def test_one(self):
        for deed, sides in itertools.product(("minus", "half", "none"), AHEAD_SIDES):
            self.told(("one", deed, PLACE[sides]), sides)

    def test_both(self):
        for deed in ("add", "less", "times", "least", "most", "below", "alike"):
            self.told(("both", deed, TWO_THREE, TWO_THREE), (2, 3))
            self.told(("both", deed, TWO_THREE, THREE), (2, 3))
            self.told(("both", deed, SCALAR, CUBE), (2, 3, 5))
            self.told(("both", deed, TWO_THREE, ONE_THREE), (2, 3))
            self.told(("both", deed, NOTHING, SINGLE), (0,))
            self.told(("both", deed, SINGLE, TWO_NONE), (2, 0))
            self.told(("both", deed, TWO_NONE, NOTHING), (2, 0))

    def test_where(self):
        self.told(("where", SCALAR, SCALAR, SCALAR), ())
        self.told(("where", SCALAR, THREE, TWO_THREE), (2, 3))
        self.told(("where", TWO_THREE, THREE, SCALAR), (2, 3))
        self.told(("where", THREE, SINGLE, TWO_THREE), (2, 3))
        self.told(("where", SINGLE, SCALAR, NOTHING), (0,))
        self.told(("where", ONE_THREE, SINGLE, SCALAR), (1, 3))

    def test_fold(self):
        for deed in ("add", "times", "least", "most"):
            self.told(("fold", deed, THREE, 0), ())
            self.told(("fold", deed, CUBE, 0), (3, 5))
            self.told(("fold", deed, CUBE, 1), (2, 5))
            self.told(("fold", deed, CUBE, 2), (2, 3))
            self.told(("fold", deed, TWO_NONE, 0), (0,))

    def test_a_fold_by_add_or_times_along_a_side_of_0(self):
        for deed in ("add", "times"):
            self.told(("fold", deed, NOTHING, 0), ())
            self.told(("fold", deed, TWO_NONE, 1), (2,))

    def test_run(self):
        for deed in ("add", "times", "least", "most"):
            self.told(("run", deed, THREE, 0), (3,))
            self.told(("run", deed, CUBE, 0), (2, 3, 5))
            self.told(("run", deed, CUBE, 2), (2, 3, 5))
            self.told(("run", deed, NOTHING, 0), (0,))
            self.told(("run", deed, TWO_NONE, 0), (2, 0))
            self.told(("run", deed, TWO_NONE, 1), (2, 0))

    def test_pick(self):
        self.told(("pick", THREE, 0, THREE), (3,))
        self.told(("pick", THREE, 0, LONG), (64,))
        self.told(("pick", CUBE, 0, THREE), (3, 3, 5))
        self.told(("pick", CUBE, 1, SINGLE), (2, 1, 5))
        self.told(("pick", CUBE, 2, NOTHING), (2, 3, 0))
        self.told(("pick", NOTHING, 0, THREE), (3,))
        self.told(("pick", FULL, 0, LONG), (64, 64))

    def test_join(self):
        self.told(("join", THREE, THREE, 0), (6,))
        self.told(("join", THREE, SINGLE, 0), (4,))
        self.told(("join", THREE, NOTHING, 0), (3,))
        self.told(("join", NOTHING, THREE, 0), (3,))
        self.told(("join", NOTHING, NOTHING, 0), (0,))
        self.told(("join", TWO_THREE, ONE_THREE, 0), (3, 3))
        self.told(("join", TWO_THREE, TWO_NONE, 1), (2, 3))
        self.told(("join", CUBE, CUBE, 1), (2, 6, 5))
        self.told(("join", LONG, NOTHING, 0), (64,))

    def test_lines_on_lines(self):
        program = [("given", 0), ("turn", 0, (1, 0)), ("both", "add", 0, 1), ("wide", 2, 0), ("fold", "add", 3, 2),
                   ("join", 4, 4, 1), ("given", 1), ("where", 6, 5, 6)]
        self.assertEqual(sides_of(program, [(3, 3), (1, 1)]),
                         [(3, 3), (3, 3), (3, 3), (1, 3, 3), (1, 3), (1, 6), (1, 1), (1, 6)])

    def test_one_table_given_twice_and_one_not_at_all(self):
        self.assertEqual(sides_of([("given", 1), ("given", 1)], [(2,), (3,)]), [(3,), (3,)])

    def test_no_tables_handed_in(self):
        self.assertEqual(sides_of([("even", (2,), 1)], []), [(2,)])


class HowManyLines(Lines):
    def test_none(self):
        self.refused_at([], 0, "many")
        self.refused_at([], 0, "many", [])

    def test_forty_are_let_by(self):
        self.assertEqual(sides_of([("even", (), 1)] * 40, []), [()] * 40)
        self.assertEqual(sides_of([("even", (), 1)] * 39, []), [()] * 39)

    def test_more_than_forty(self):
        self.refused_at([("even", (), 1)] * 41, 40, "many")
        self.refused_at([("even", (), 1)] * 60, 40, "many")

    def test_it_is_told_ahead_of_all_lines(self):
        self.refused_at([("even", (65,), -1)] * 41, 40, "many")
        self.refused_at([("one", "minus", 9)] * 41, 40, "many")


class NoSuchPlace(Lines):
    LINES = (
        lambda a: ("turn", a, ()), lambda a: ("cut", a, 0, 0, 1, 1), lambda a: ("drop", a, 0, 0),
        lambda a: ("wide", a, 0), lambda a: ("spread", a, ()), lambda a: ("shape", a, ()),
        lambda a: ("shift", a, 0, 1, 0), lambda a: ("one", "half", a), lambda a: ("both", "add", a, SCALAR),
        lambda a: ("both", "add", SCALAR, a), lambda a: ("where", a, SCALAR, SCALAR),
        lambda a: ("where", SCALAR, a, SCALAR), lambda a: ("where", SCALAR, SCALAR, a),
        lambda a: ("fold", "add", a, 0), lambda a: ("run", "add", a, 0), lambda a: ("pick", a, 0, THREE),
        lambda a: ("pick", THREE, 0, a), lambda a: ("join", a, THREE, 0), lambda a: ("join", THREE, a, 0))

    def test_a_line_that_is_not_ahead(self):
        for make, bad in itertools.product(self.LINES, (-1, -NOW, NOW, NOW + 1, 1000)):
            self.refused(make(bad), "place")

    def test_the_last_line_ahead_is_there(self):
        self.told(("one", "half", NOW - 1), (64, 64))
        self.told(("both", "add", NOW - 1, 0), (64, 64))
        self.told(("one", "half", 0), ())

    def test_no_line_names_itself_or_one_behind(self):
        self.refused_at([("one", "half", 0)], 0, "place")
        self.refused_at([("one", "half", 1), ("even", (), 1)], 0, "place")

    def test_a_table_that_is_not_handed_in(self):
        for bad in (-1, -3, 3, 4, 100):
            self.refused(("given", bad), "place")
        self.refused_at([("given", 0)], 0, "place", [])


class NoSuchNumber(Lines):
    def test_even(self):
        for bad in (-1, LAST + 1, -LAST, 10 ** 12):
            self.refused(("even", (2,), bad), "number")

    def test_shift(self):
        for bad in (-1, LAST + 1, -LAST, 10 ** 12):
            self.refused(("shift", THREE, 0, 1, bad), "number")

    def test_other_numbers_are_not_meant(self):
        self.told(("shift", THREE, 0, -10 ** 9, 0), (3,))
        self.told(("shift", THREE, 0, 10 ** 9, 0), (3,))
        self.told(("cut", THREE, 0, -1, 10 ** 9, 0), (0,))


class NoSuchSides(Lines):
    def test_given_sides_that_break_their_bounds(self):
        for sides in ((65,), (-1,), (64, 65), (64, 64, 2), (1, 1, 1, 1, 1)):
            self.refused_at([("given", 0)], 0, "sides", [sides])
            self.refused_at([("even", (), 1), ("given", 1)], 1, "sides", [(), sides])
        self.assertEqual(sides_of([("even", (), 1)], [(65,)]), [()])

    def test_even(self):
        for sides in ((-1,), (65,), (3, -1), (64, 65), (64, 64, 2), (41, 50, 2), (1, 1, 1, 1, 1), (65, 0), (-2, -3)):
            self.refused(("even", sides, 1), "sides")

    def test_turn(self):
        for order in ((), (0, 1), (1,), (-1,)):
            self.refused(("turn", THREE, order), "sides")
        for order in ((0,), (0, 0), (1, 1), (0, 2), (0, -1), (-1, 0), (0, 1, 2), (1, 0, 0)):
            self.refused(("turn", TWO_THREE, order), "sides")
        self.refused(("turn", SCALAR, (0,)), "sides")

    def test_a_side_that_is_not_there(self):
        for sides in ((), (3,), (2, 3), (2, 3, 5), (2, 3, 4, 5)):
            for bad in (-1, -len(sides), len(sides), len(sides) + 1):
                if 0 <= bad < len(sides):
                    continue
                a = PLACE[sides]
                self.refused(("cut", a, bad, 0, 1, 1), "sides")
                self.refused(("cut", a, bad, 0, 1, 0), "sides")
                self.refused(("drop", a, bad, 0), "sides")
                self.refused(("shift", a, bad, 1, 0), "sides")
                self.refused(("fold", "add", a, bad), "sides")
                self.refused(("run", "add", a, bad), "sides")
                self.refused(("pick", a, bad, THREE), "sides")
                self.refused(("join", a, a, bad), "sides")

    def test_cut(self):
        for begin, step, many in ((0, 0, 1), (0, 0, 0), (0, 1, -1), (0, 1, 4), (1, 1, 3), (-1, 1, 1), (-1, 1, 2),
                                  (3, 1, 1), (3, -1, 2), (2, -1, 4), (0, -1, 2), (0, 2, 3), (2, -2, 3), (0, 3, 2)):
            self.refused(("cut", THREE, 0, begin, step, many), "sides")
        self.refused(("cut", TWO_THREE, 0, 2, 1, 1), "sides")
        self.refused(("cut", NOTHING, 0, 0, 1, 1), "sides")
        self.refused(("cut", TWO_NONE, 1, 0, 1, 1), "sides")
        self.refused(("cut", LONG, 0, 0, 1, 65), "sides")

    def test_drop(self):
        for bad in (-1, 3, 4):
            self.refused(("drop", THREE, 0, bad), "sides")
        self.refused(("drop", TWO_THREE, 0, 2), "sides")
        self.refused(("drop", NOTHING, 0, 0), "sides")

    def test_wide(self):
        for bad in (-1, 2, 3):
            self.refused(("wide", THREE, bad), "sides")
        self.refused(("wide", SCALAR, 1), "sides")
        for at in range(5):
            self.refused(("wide", FOUR, at), "sides")

    def test_spread(self):
        for a, sides in ((THREE, (4,)), (THREE, (1,)), (THREE, ()), (THREE, (3, 1)), (THREE, (3, 2)), (THREE, (0,)),
                         (TWO_THREE, (3,)), (TWO_THREE, (1, 3)), (ONE_THREE, (3,)), (NOTHING, (1,)), (NOTHING, (2,)),
                         (SINGLE, ()), (SINGLE, (65,)), (SINGLE, (-1,)), (SCALAR, (64, 65)), (SCALAR, (64, 64, 2)),
                         (SCALAR, (1, 1, 1, 1, 1))):
            self.refused(("spread", a, sides), "sides")

    def test_shape(self):
        for a, sides in ((THREE, (4,)), (THREE, ()), (THREE, (3, 0)), (CUBE, (29,)), (CUBE, (31,)), (SCALAR, (0,)),
                         (NOTHING, ()), (NOTHING, (1,)), (CUBE, (-5, -6)), (FULL, (4096,)), (TWO_NONE, (65, 0)),
                         (TWO_NONE, (-1, 0)), (SCALAR, (1, 1, 1, 1, 1)), (FOUR, (120,))):
            self.refused(("shape", a, sides), "sides")

    def test_both(self):
        for a, b in ((THREE, LONG), (THREE, NOTHING), (TWO_THREE, CUBE), (TWO_THREE, TWO_NONE)):
            self.refused(("both", "add", a, b), "sides")
            self.refused(("both", "add", b, a), "sides")

    def test_where(self):
        for row in itertools.permutations((THREE, LONG, SCALAR)):
            self.refused(("where",) + row, "sides")
        for row in itertools.permutations((THREE, TWO_THREE, NOTHING)):
            self.refused(("where",) + row, "sides")

    def test_sides_that_meet_in_too_many_cells(self):
        program = [("even", (64, 64, 1), 1), ("even", (64, 1, 64), 1), ("even", (), 1)]
        self.refused_at(program + [("both", "add", 0, 1)], 3, "sides")
        for row in itertools.permutations((0, 1, 2)):
            self.refused_at(program + [("where",) + row], 3, "sides")

    def test_fold_by_least_or_most_along_a_side_of_0(self):
        for deed in ("least", "most"):
            self.refused(("fold", deed, NOTHING, 0), "sides")
            self.refused(("fold", deed, TWO_NONE, 1), "sides")
            self.refused_at([("even", (0, 0), 1), ("fold", deed, 0, 0)], 1, "sides")

    def test_fold_with_too_many_cells(self):
        self.refused_at([("even", (64, 64, 64, 0), 1), ("fold", "add", 0, 3)], 1, "sides")

    def test_pick(self):
        for b in (SCALAR, TWO_THREE, CUBE, TWO_NONE, ONE_THREE):
            self.refused(("pick", THREE, 0, b), "sides")
        self.refused(("pick", CUBE, 3, THREE), "sides")
        self.refused_at([("even", (64, 32, 2), 1), ("even", (33,), 1), ("pick", 0, 1, 1)], 2, "sides")
        self.refused_at([("even", (64, 64, 0), 1), ("even", (2,), 1), ("pick", 0, 2, 1)], 2, "sides")

    def test_join(self):
        for a, b, side in ((THREE, TWO_THREE, 0), (TWO_THREE, THREE, 0), (TWO_THREE, ONE_THREE, 1),
                           (TWO_THREE, TWO_NONE, 0), (CUBE, TWO_THREE, 0), (SCALAR, SCALAR, 0), (THREE, SCALAR, 0),
                           (LONG, SINGLE, 0), (LONG, LONG, 0), (FULL, FULL, 0), (FULL, FULL, 1),
                           (THREE, ONE_THREE, 0), (ONE_THREE, THREE, 0)):
            self.refused(("join", a, b, side), "sides")

    def test_a_deed_that_the_line_has_not_got(self):
        for line in (("one", "add", THREE), ("both", "minus", THREE, THREE), ("fold", "less", THREE, 0),
                     ("run", "below", THREE, 0), ("fold", "half", THREE, 0)):
            self.refused(line, "sides")


class WhichIsTold(Lines):
    def test_place_ahead_of_number_ahead_of_sides(self):
        self.refused(("shift", NOW, 9, 1, -1), "place")
        self.refused(("shift", NOW, 0, 1, -1), "place")
        self.refused(("shift", NOW, 9, 1, 0), "place")
        self.refused(("shift", THREE, 9, 1, -1), "number")
        self.refused(("shift", THREE, 9, 1, 0), "sides")
        self.refused(("even", (65,), -1), "number")
        self.refused(("even", (65,), 0), "sides")
        self.refused(("cut", NOW, 9, 0, 0, -1), "place")
        self.refused(("pick", THREE, 9, NOW), "place")
        self.refused(("pick", NOW, 0, TWO_THREE), "place")
        self.refused(("join", THREE, -1, 7), "place")
        self.refused(("where", THREE, LONG, NOW), "place")
        self.refused(("fold", "least", -1, 9), "place")

    def test_the_first_of_several_bad_lines(self):
        good, place, number, sides = ("even", (2,), 1), ("one", "half", 99), ("even", (2,), -1), ("even", (65,), 1)
        for first, second in itertools.permutations(((place, "place"), (number, "number"), (sides, "sides")), 2):
            self.refused_at([first[0], second[0]], 0, first[1])
            self.refused_at([good, first[0], good, second[0]], 1, first[1])
            self.refused_at([good] * 38 + [first[0], second[0]], 38, first[1])
            self.refused_at([good] * 39 + [first[0]], 39, first[1])

    def test_a_line_on_which_the_answer_does_not_hang(self):
        self.refused_at([("even", (), 1), ("drop", 0, 0, 0), ("even", (), 1)], 1, "sides")
        self.refused_at([("even", (), 1), ("given", 9), ("even", (), 1)], 1, "place")

    def test_taken_as_those_above_it_and_as_no_other(self):
        for program in ([], [("even", (65,), 1)], [("given", 0)], [("even", (), -1)], [("even", (), 1)] * 41):
            for taken in (BadLine, LoomError, ValueError):
                with self.assertRaises(taken) as told:
                    sides_of(program, [])
                self.assertNotIsInstance(told.exception, (NoTable, NoCell, NoText))


class WhatIsHandedIn(Lines):
    def test_stays_as_it_was(self):
        program = AHEAD + [("given", 0), ("turn", CUBE, (2, 0, 1)), ("wide", CUBE, 1), ("join", CUBE, CUBE, 0)]
        given = list(GIVEN)
        kept = list(program)
        sides_of(program, given)
        self.assertEqual((program, given), (kept, GIVEN))
        bad = program + [("given", 9)]
        with self.assertRaises(BadLine):
            sides_of(bad, given)
        self.assertEqual((bad, given), (kept + [("given", 9)], GIVEN))

    def test_what_is_given_back_is_new(self):
        program, given = [("given", 0), ("one", "half", 0)], [(2, 3)]
        first = sides_of(program, given)
        first[0] = (9,)
        first.append(())
        self.assertEqual(given, [(2, 3)])
        self.assertEqual(sides_of(program, given), [(2, 3), (2, 3)])


if __name__ == "__main__":
    unittest.main()
