"""Points 1, 3, 4, 5 and 7: the plain deeds, each kind of line cell by cell."""

import itertools
import unittest

from loomarrays.errors import BadLine, LoomError, NoCell, NoTable, NoText
from loomarrays.plain import plain_answer
from loomarrays.tables import Table

REST = 1000003
LAST = REST - 1
# Tables of none to four sides, sides of 0 and of 1 among them.
ALL_SIDES = [sides for many in range(4) for sides in itertools.product((0, 1, 2, 3), repeat=many)]
ALL_SIDES += [(2, 3, 4, 5), (1, 2, 1, 3), (2, 1, 3, 1), (1, 1, 1, 1), (2, 0, 3, 2), (3, 2, 2, 0), (0, 1, 1, 2)]
ONE_DEEDS = {"minus": lambda number: -number % REST, "half": lambda number: number // 2,
             "none": lambda number: int(number == 0)}
BOTH_DEEDS = {"add": lambda a, b: (a + b) % REST, "less": lambda a, b: (a - b) % REST,
              "times": lambda a, b: a * b % REST, "least": min, "most": max,
              "below": lambda a, b: int(a < b), "alike": lambda a, b: int(a == b)}
FOLD_DEEDS = ("add", "times", "least", "most")


def indexes(sides):
    """All indexes, the last side's number going fastest."""
    return list(itertools.product(*[range(side) for side in sides]))


def filled(sides, seed):
    """A table of these sides with numbers of all sizes, noughts among them, by the seed."""
    cells = [(place * 7919 * (seed + 3) + seed) % REST if (place + seed) % 4 else (place + seed) % 3
             for place in range(len(indexes(sides)))]
    return Table(sides, cells)


def by_index(table):
    """The table's cells by their indexes."""
    return dict(zip(indexes(table.sides), table.cells))


def spread(table, at):
    """The cell of a table that is spread, by point 3's words."""
    last = at[len(at) - len(table.sides):]
    return by_index(table)[tuple(0 if side == 1 else number for side, number in zip(table.sides, last))]


def fold(deed, numbers):
    """The fold by point 4's words."""
    if not numbers:
        return {"add": 0, "times": 1}[deed]
    number = numbers[0]
    for other in numbers[1:]:
        number = BOTH_DEEDS[deed](number, other)
    return number


def put_in(at, side, number):
    return at[:side] + (number,) + at[side:]


def replaced(at, side, number):
    return at[:side] + (number,) + at[side + 1:]


def without(at, side):
    return at[:side] + at[side + 1:]


class Plain(unittest.TestCase):
    def check(self, line, tables, sides, cell):
        """That a line over given tables has these sides, and at each index the cell that is told."""
        program = [("given", number) for number in range(len(tables))] + [line]
        held = [(table.sides, list(table.cells)) for table in tables]
        answer = plain_answer(program, tables)
        self.assertIs(type(answer), Table)
        self.assertEqual(answer.sides, sides, line)
        self.assertEqual(answer.cells, [cell(at) for at in indexes(sides)], (line, held))
        self.assertEqual(held, [(table.sides, table.cells) for table in tables])
        self.assertEqual(program[len(tables):], [line])

    def refused(self, program, tables):
        for taken in (NoCell, LoomError, ValueError):
            with self.assertRaises(taken, msg=program) as told:
                plain_answer(program, tables)
            self.assertNotIsInstance(told.exception, (BadLine, NoTable, NoText))

    def tables_and_sides(self):
        """Each table with each of its sides."""
        for seed, sides in enumerate(ALL_SIDES):
            for side in range(len(sides)):
                yield filled(sides, seed), side


class Beginnings(Plain):
    def test_given(self):
        for seed, sides in enumerate(ALL_SIDES):
            table = filled(sides, seed)
            answer = plain_answer([("given", 1)], [filled((2,), 1), table])
            self.assertEqual((answer.sides, answer.cells), (sides, table.cells))

    def test_even(self):
        for sides, number in itertools.product(ALL_SIDES, (0, 7, LAST)):
            self.check(("even", sides, number), [], sides, lambda at: number)


class Views(Plain):
    def test_turn(self):
        for seed, sides in enumerate(ALL_SIDES):
            table = filled(sides, seed)
            cells = by_index(table)
            for order in itertools.permutations(range(len(sides))):
                turned = tuple(sides[side] for side in order)
                # Side k of the turn is the table's side order[k], so its number k is number order[k] there.
                seen = {tuple(at[side] for side in order): cells[at] for at in cells}
                self.check(("turn", 0, order), [table], turned, seen.get)

    def test_cut(self):
        for table, side in self.tables_and_sides():
            size, cells = table.sides[side], by_index(table)
            for begin, step, many in itertools.product(range(size), (-2, -1, 1, 2), (1, 2, 3)):
                places = [begin + step * number for number in range(many)]
                if all(0 <= place < size for place in places):
                    self.check(("cut", 0, side, begin, step, many), [table], replaced(table.sides, side, many),
                               lambda at: cells[replaced(at, side, places[at[side]])])
            self.check(("cut", 0, side, 9, -4, 0), [table], replaced(table.sides, side, 0), None)

    def test_cut_told(self):
        table = Table((5,), [10, 11, 12, 13, 14])
        for line, cells in ((("cut", 0, 0, 1, 1, 3), [11, 12, 13]), (("cut", 0, 0, 4, -2, 3), [14, 12, 10]),
                            (("cut", 0, 0, 0, 4, 2), [10, 14]), (("cut", 0, 0, 3, 99, 1), [13])):
            self.assertEqual(plain_answer([("given", 0), line], [table]).cells, cells)

    def test_drop(self):
        for table, side in self.tables_and_sides():
            cells = by_index(table)
            for place in range(table.sides[side]):
                self.check(("drop", 0, side, place), [table], without(table.sides, side),
                           lambda at: cells[put_in(at, side, place)])

    def test_wide(self):
        for seed, sides in enumerate(ALL_SIDES):
            table = filled(sides, seed)
            for side in range(len(sides) + 1 if len(sides) < 4 else 0):
                self.check(("wide", 0, side), [table], put_in(sides, side, 1),
                           lambda at: by_index(table)[without(at, side)])

    def test_spread(self):
        for own, wide in (((), ()), ((), (3,)), ((), (2, 3, 2)), ((1,), (4,)), ((3,), (3,)), ((3,), (2, 3)),
                          ((2, 1), (2, 3)), ((1, 3), (2, 3)), ((1, 3), (4, 2, 3)), ((2, 1, 3), (2, 2, 4, 3)),
                          ((1, 1), (2, 3)), ((1, 1, 1, 1), (2, 1, 3, 2)), ((2, 3, 2, 3), (2, 3, 2, 3)), ((1,), (0,)),
                          ((0,), (3, 0)), ((), (2, 0)), ((1, 0), (5, 0)), ((1,), (1, 1))):
            table = filled(own, len(wide))
            self.check(("spread", 0, wide), [table], wide, lambda at: spread(table, at))

    def test_shape(self):
        for own, shaped in (((), ()), ((), (1, 1, 1)), ((1,), ()), ((6,), (2, 3)), ((2, 3), (3, 2)), ((2, 3), (6,)),
                            ((2, 3, 4), (4, 3, 2)), ((2, 3, 4), (24,)), ((24,), (2, 3, 2, 2)), ((4, 6), (4, 6)),
                            ((0,), (3, 0)), ((2, 0, 3), (0,)), ((0, 5), (1, 0, 1, 1))):
            table = filled(own, 5)
            self.check(("shape", 0, shaped), [table], shaped, dict(zip(indexes(shaped), table.cells)).get)

    def test_shift(self):
        for table, side in self.tables_and_sides():
            cells = by_index(table)
            for by in (-70, -3, -2, -1, 0, 1, 2, 3, 70):
                self.check(("shift", 0, side, by, 777), [table], table.sides,
                           lambda at: cells.get(replaced(at, side, at[side] - by), 777))

    def test_shift_told(self):
        table = Table((4,), [10, 11, 12, 13])
        for by, cells in ((1, [5, 10, 11, 12]), (-1, [11, 12, 13, 5]), (0, [10, 11, 12, 13]), (3, [5, 5, 5, 10]),
                          (4, [5] * 4), (-4, [5] * 4), (5, [5] * 4), (-5, [5] * 4)):
            self.assertEqual(plain_answer([("given", 0), ("shift", 0, 0, by, 5)], [table]).cells, cells)

    def test_join(self):
        for table, side in self.tables_and_sides():
            for size in (0, 1, 3):
                other = filled(replaced(table.sides, side, size), 11)
                own = table.sides[side]
                joined = by_index(table)
                for at, number in by_index(other).items():
                    joined[replaced(at, side, own + at[side])] = number
                self.check(("join", 0, 1, side), [table, other], replaced(table.sides, side, own + size), joined.get)

    def test_join_with_itself(self):
        answer = plain_answer([("given", 0), ("join", 0, 0, 1)], [Table((2, 2), [1, 2, 3, 4])])
        self.assertEqual((answer.sides, answer.cells), ((2, 4), [1, 2, 1, 2, 3, 4, 3, 4]))


class Deeds(Plain):
    MET = (((), (), ()), ((3,), (3,), (3,)), ((2, 3), (3,), (2, 3)), ((3,), (2, 3), (2, 3)), ((2, 1), (1, 3), (2, 3)),
           ((2, 1), (3,), (2, 3)), ((), (2, 2), (2, 2)), ((2, 1, 3), (4, 1), (2, 4, 3)),
           ((2, 1, 2, 1), (1, 3, 1, 3), (2, 3, 2, 3)), ((0,), (1,), (0,)), ((2, 0), (), (2, 0)), ((0, 1), (3,), (0, 3)))

    def test_one(self):
        for (deed, does), (seed, sides) in itertools.product(ONE_DEEDS.items(), enumerate(ALL_SIDES)):
            table = filled(sides, seed)
            self.check(("one", deed, 0), [table], sides, lambda at: does(by_index(table)[at]))

    def test_both(self):
        for (deed, does), (one, other, met) in itertools.product(BOTH_DEEDS.items(), self.MET):
            left, right = filled(one, 4), filled(other, 6)
            self.check(("both", deed, 0, 1), [left, right], met,
                       lambda at: does(spread(left, at), spread(right, at)))

    def test_both_with_the_same_line_twice(self):
        for deed, does in BOTH_DEEDS.items():
            table = filled((2, 3), 1)
            self.check(("both", deed, 0, 0), [table], (2, 3),
                       lambda at: does(by_index(table)[at], by_index(table)[at]))

    def test_each_both_at_the_bounds(self):
        numbers = [0, 1, 2, 500001, 500002, LAST - 1, LAST]
        table = Table((7,), numbers)
        for deed, does in BOTH_DEEDS.items():
            answer = plain_answer([("given", 0), ("wide", 0, 1), ("both", deed, 1, 0)], [table])
            self.assertEqual(answer.cells, [does(one, other) for one in numbers for other in numbers])

    def test_where(self):
        for asked, left, right, met in (((), (), (), ()), ((4,), (4,), (4,), (4,)), ((3, 1), (1, 4), (), (3, 4)),
                                        ((), (3,), (2, 1), (2, 3)), ((2, 3), (), (3,), (2, 3)),
                                        ((3,), (2, 3), (1,), (2, 3)), ((2, 1, 1), (1, 3, 1), (1, 1, 2), (2, 3, 2)),
                                        ((0,), (), (1,), (0,)), ((1,), (0,), (2, 1), (2, 0)),
                                        ((1, 2, 1, 2), (2, 1), (), (1, 2, 2, 2))):
            for seed in range(4):
                flags = [(place + seed) % 2 * 5 for place in range(len(indexes(asked)))]
                tables = [Table(asked, flags), filled(left, seed + 20), filled(right, seed + 40)]
                self.check(("where", 0, 1, 2), tables, met,
                           lambda at: spread(tables[1 if spread(tables[0], at) != 0 else 2], at))

    def test_where_asks_for_nought_alone(self):
        tables = [Table((4,), [0, 1, 2, LAST]), Table((4,), [10, 11, 12, 13]), Table((), [5])]
        program = [("given", 0), ("given", 1), ("given", 2), ("where", 0, 1, 2)]
        self.assertEqual(plain_answer(program, tables).cells, [5, 11, 12, 13])


class FoldsAndRuns(Plain):
    def test_fold(self):
        for deed, (table, side) in itertools.product(FOLD_DEEDS, self.tables_and_sides()):
            cells, size = by_index(table), table.sides[side]
            if size > 0 or deed in ("add", "times"):
                self.check(("fold", deed, 0, side), [table], without(table.sides, side),
                           lambda at: fold(deed, [cells[put_in(at, side, place)] for place in range(size)]))

    def test_fold_along_a_side_of_0(self):
        for deed, number in (("add", 0), ("times", 1)):
            for sides, side in (((0,), 0), ((3, 0), 1), ((0, 3), 0), ((2, 0, 2), 1), ((1, 2, 0, 2), 2)):
                self.check(("fold", deed, 0, side), [Table(sides, [])], without(sides, side), lambda at: number)

    def test_fold_of_one_number_is_that_number(self):
        for deed, number in itertools.product(FOLD_DEEDS, (0, 1, 5, LAST)):
            answer = plain_answer([("given", 0), ("fold", deed, 0, 0)], [Table((1,), [number])])
            self.assertEqual((answer.sides, answer.cells), ((), [number]))

    def test_fold_by_rests(self):
        for deed, number in (("add", 64 * LAST % REST), ("times", pow(LAST, 64, REST)), ("least", LAST),
                             ("most", LAST)):
            answer = plain_answer([("even", (64,), LAST), ("fold", deed, 0, 0)], [])
            self.assertEqual(answer.cells, [number])

    def test_run(self):
        for deed, (table, side) in itertools.product(FOLD_DEEDS, self.tables_and_sides()):
            cells = by_index(table)
            self.check(("run", deed, 0, side), [table], table.sides, lambda at: fold(
                deed, [cells[replaced(at, side, place)] for place in range(at[side] + 1)]))

    def test_run_told(self):
        table = Table((2, 3), [5, 3, 4, 1, 9, 2])
        for deed, side, cells in (("add", 1, [5, 8, 12, 1, 10, 12]), ("add", 0, [5, 3, 4, 6, 12, 6]),
                                  ("times", 1, [5, 15, 60, 1, 9, 18]), ("least", 1, [5, 3, 3, 1, 1, 1]),
                                  ("most", 0, [5, 3, 4, 5, 9, 4])):
            self.assertEqual(plain_answer([("given", 0), ("run", deed, 0, side)], [table]).cells, cells)

    def test_run_along_a_side_of_0(self):
        for deed, (sides, side) in itertools.product(FOLD_DEEDS, (((0,), 0), ((3, 0), 1), ((0, 3), 0), ((2, 0), 0))):
            self.check(("run", deed, 0, side), [Table(sides, [])], sides, None)


class Picks(Plain):
    def test_pick(self):
        for table, side in self.tables_and_sides():
            size, cells = table.sides[side], by_index(table)
            for numbers in ((0,), (size - 1,), (0, size - 1, 0), (1, 1), (2, 1, 0, 2), tuple(range(size))):
                if all(0 <= number < size for number in numbers):
                    places = Table((len(numbers),), list(numbers))
                    self.check(("pick", 0, side, 1), [table, places], replaced(table.sides, side, len(numbers)),
                               lambda at: cells[replaced(at, side, numbers[at[side]])])

    def test_a_line_may_pick_by_itself(self):
        answer = plain_answer([("given", 0), ("pick", 0, 0, 0)], [Table((4,), [2, 0, 3, 1])])
        self.assertEqual(answer.cells, [3, 2, 1, 0])

    def test_a_number_that_is_not_a_place(self):
        program = [("given", 0), ("given", 1), ("pick", 0, 1, 1)]
        for numbers in ([3], [0, 3], [3, 0], [0, 1, 2, 4], [LAST], [1, LAST, 1]):
            self.refused(program, [filled((2, 3), 1), Table((len(numbers),), numbers)])
        self.refused(program, [filled((2, 0), 1), Table((1,), [0])])
        self.refused([("given", 0), ("pick", 0, 0, 0)], [Table((2,), [0, 2])])

    def test_nothing_is_refused_where_no_cell_is_made(self):
        places = Table((2,), [9, LAST])
        for sides, side, told in (((0, 3), 1, (0, 2)), ((3, 0), 0, (2, 0)), ((0, 0), 0, (2, 0)),
                                  ((2, 3, 0), 1, (2, 2, 0))):
            self.check(("pick", 0, side, 1), [Table(sides, []), places], told, None)
        self.check(("pick", 0, 1, 1), [filled((2, 3), 1), Table((0,), [])], (2, 0), None)
        self.check(("pick", 0, 1, 1), [Table((2, 0), []), Table((0,), [])], (2, 0), None)

    def test_a_cell_is_made_though_nothing_looks_at_it(self):
        tables = [filled((3,), 1), Table((2,), [0, 3])]
        program = [("given", 0), ("given", 1), ("pick", 0, 0, 1)]
        self.refused(program + [("drop", 2, 0, 0)], tables)
        self.refused(program + [("cut", 2, 0, 5, 1, 0)], tables)
        self.refused(program + [("even", (2,), 0), ("where", 3, 2, 3)], tables)


class WhatIsNotMade(Plain):
    def test_a_pick_on_which_the_answer_does_not_hang_refuses_nothing(self):
        tables = [filled((3,), 1), Table((2,), [0, 3])]
        program = [("given", 0), ("given", 1), ("pick", 0, 0, 1), ("one", "half", 2), ("one", "none", 0)]
        self.assertEqual(plain_answer(program, tables).cells, [int(number == 0) for number in tables[0].cells])
        self.refused(program[:4], tables)

    def test_a_line_that_cannot_be_is_refused_wherever_it_stands(self):
        table = filled((3,), 1)
        for program, told in (([], (0, "many")), ([("given", 0)] * 41, (40, "many")), ([("given", 1)], (0, "place")),
                              ([("given", 0), ("one", "half", 7), ("given", 0)], (1, "place")),
                              ([("given", 0), ("shift", 0, 0, 1, REST), ("given", 0)], (1, "number")),
                              ([("given", 0), ("drop", 0, 0, 3), ("given", 0)], (1, "sides")),
                              ([("given", 0), ("pick", 0, 1, 0), ("given", 0)], (1, "sides"))):
            with self.assertRaises(BadLine) as taken:
                plain_answer(program, [table])
            self.assertEqual((taken.exception.at, taken.exception.why), told)

    def test_bad_lines_are_told_ahead_of_no_cell(self):
        tables = [filled((3,), 1), Table((1,), [9])]
        with self.assertRaises(BadLine):
            plain_answer([("given", 0), ("given", 1), ("pick", 0, 0, 1), ("drop", 2, 5, 0)], tables)


class WhatIsHandedIn(Plain):
    PROGRAM = [("given", 0), ("given", 1), ("turn", 0, (1, 0)), ("both", "add", 2, 1), ("run", "add", 3, 0),
               ("pick", 4, 0, 1), ("join", 4, 5, 1)]

    def test_stays_as_it_was(self):
        program, tables = list(self.PROGRAM), [filled((2, 2), 1), Table((2,), [1, 0])]
        held = [(table.sides, list(table.cells)) for table in tables]
        listed = list(tables)
        plain_answer(program, tables)
        self.assertEqual(program, self.PROGRAM)
        self.assertEqual([(table.sides, table.cells) for table in tables], held)
        self.assertTrue(all(one is other for one, other in zip(tables, listed)) and len(tables) == 2)

    def test_the_answer_is_new(self):
        for program in ([("given", 0)], [("given", 0), ("shape", 0, (2, 2))], [("given", 0), ("turn", 0, (0, 1))],
                        [("given", 0), ("spread", 0, (2, 2))], [("given", 0), ("cut", 0, 0, 0, 1, 2)],
                        [("even", (2, 2), 3)], self.PROGRAM):
            tables = [filled((2, 2), 1), Table((2,), [1, 0])]
            held = [list(table.cells) for table in tables]
            first = plain_answer(program, tables)
            told = list(first.cells)
            for place in range(len(first.cells)):
                first.cells[place] = 999
            first.cells.append(1)
            self.assertEqual([table.cells for table in tables], held)
            second = plain_answer(program, tables)
            self.assertEqual(second.cells, told)
            self.assertIsNot(second.cells, first.cells)

    def test_a_table_given_twice(self):
        answer = plain_answer([("given", 0), ("given", 0), ("both", "times", 0, 1)], [Table((3,), [2, 3, 4])])
        self.assertEqual(answer.cells, [4, 9, 16])

    def test_forty_lines(self):
        program = [("given", 0)] + [("both", "add", at, 0) for at in range(39)]
        self.assertEqual(plain_answer(program, [Table((2,), [1, 5])]).cells, [40, 200])


if __name__ == "__main__":
    unittest.main()
