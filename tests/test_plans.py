"""Points 8 to 13: plans, their loops and trees, and their rows."""

import itertools
import unittest

from programs import cells_by, indexes, lines_read, plan_told, program_of

from loomarrays.errors import BadLine, NoCell
from loomarrays.keeping import kept_lines
from loomarrays.lines import sides_of
from loomarrays.plain import plain_answer
from loomarrays.plans import Plan, plan_of
from loomarrays.tables import Table

READ_ALL = ("read", 0, 0, (3, 1))


def rows_by_the_point(loops):
    """The rows by point 13's words: loop by loop the lowest that no line ahead needs still."""
    rows = {}
    for now, loop in enumerate(loops):
        still = {rows[ahead[1]] for ahead in loops[:now]
                 if any(ahead[1] in lines_read(other) for other in loops[now:])}
        rows[loop[1]] = next(row for row in itertools.count() if row not in still)
    return rows


class Told(unittest.TestCase):
    """Loops of short programs, told whole."""

    def check(self, program, given, loops, row_of=None, lengths=None):
        held = (list(program), list(given))
        plan = plan_of(program, given)
        self.assertIs(type(plan), Plan)
        self.assertEqual((program, given), held)
        told = plan_told(plan)
        self.assertEqual(told[0], loops, program)
        if row_of is not None:
            self.assertEqual(told[1:], (row_of, lengths))

    def over(self, line, sides, tree):
        """That a line over a given table of 2 by 3 is filled by this tree."""
        self.check([("given", 0), line], [(2, 3)], [("load", 0, (2, 3), 0), ("fill", 1, sides, tree)])

    def test_load(self):
        self.check([("given", 1)], [(2,), (2, 3)], [("load", 0, (2, 3), 1)], {0: 0}, [6])
        self.check([("given", 0)], [()], [("load", 0, (), 0)], {0: 0}, [1])
        self.check([("given", 0)], [(3, 0)], [("load", 0, (3, 0), 0)], {0: 0}, [0])

    def test_even(self):
        self.check([("even", (2, 3), 7)], [], [("fill", 0, (2, 3), ("even", 7))], {0: 0}, [6])
        self.check([("even", (), 7), ("spread", 0, (4,))], [], [("fill", 1, (4,), ("even", 7))], {1: 0}, [4])

    def test_an_even_that_is_kept_is_read(self):
        self.check([("even", (2, 3), 7), ("shape", 0, (6,))], [],
                   [("fill", 0, (2, 3), ("even", 7)), ("fill", 1, (6,), ("read", 0, 0, (1,)))], {0: 0, 1: 1}, [6, 6])

    def test_views(self):
        self.over(("turn", 0, (1, 0)), (3, 2), ("read", 0, 0, (1, 3)))
        self.over(("cut", 0, 1, 2, -1, 2), (2, 2), ("read", 0, 2, (3, -1)))
        self.over(("cut", 0, 0, 1, 1, 1), (1, 3), ("read", 0, 3, (3, 1)))
        self.over(("drop", 0, 0, 1), (3,), ("read", 0, 3, (1,)))
        self.over(("drop", 0, 1, 2), (2,), ("read", 0, 2, (3,)))
        self.over(("wide", 0, 1), (2, 1, 3), ("read", 0, 0, (3, 0, 1)))
        self.over(("spread", 0, (4, 2, 3)), (4, 2, 3), ("read", 0, 0, (0, 3, 1)))
        self.over(("shape", 0, (3, 2)), (3, 2), ("read", 0, 0, (2, 1)))
        self.over(("shape", 0, (6,)), (6,), ("read", 0, 0, (1,)))

    def test_views_of_views(self):
        self.check([("given", 0), ("turn", 0, (1, 0)), ("drop", 1, 0, 2), ("wide", 2, 0), ("cut", 3, 1, 1, -1, 2)],
                   [(2, 3)], [("load", 0, (2, 3), 0), ("fill", 4, (1, 2), ("read", 0, 5, (0, -3)))],
                   {0: 0, 4: 1}, [6, 2])

    def test_a_shape_within_views(self):
        self.check([("given", 0), ("shape", 0, (3, 2)), ("turn", 1, (1, 0)), ("one", "half", 2)], [(2, 3)],
                   [("load", 0, (2, 3), 0), ("fill", 3, (2, 3), ("one", "half", ("read", 0, 0, (1, 2))))])

    def test_a_cut_of_no_places_is_read_too(self):
        self.over(("cut", 0, 1, 9, 5, 0), (2, 0), ("read", 0, 9, (3, 5)))

    def test_sides_of_0_have_strides_too(self):
        self.check([("given", 0), ("one", "half", 0)], [(2, 0, 3)],
                   [("load", 0, (2, 0, 3), 0), ("fill", 1, (2, 0, 3), ("one", "half", ("read", 0, 0, (0, 3, 1))))],
                   {0: 0, 1: 1}, [0, 0])
        self.check([("given", 0), ("shape", 0, (0, 5))], [(2, 0)],
                   [("load", 0, (2, 0), 0), ("fill", 1, (0, 5), ("read", 0, 0, (5, 1)))])

    def test_deeds(self):
        self.over(("one", "minus", 0), (2, 3), ("one", "minus", READ_ALL))
        self.over(("both", "less", 0, 0), (2, 3), ("both", "less", READ_ALL, READ_ALL))
        self.over(("where", 0, 0, 0), (2, 3), ("where", READ_ALL, READ_ALL, READ_ALL))

    def test_the_order_of_what_is_named(self):
        loads = [("load", at, (2,), at) for at in range(3)]
        reads = [("read", at, 0, (1,)) for at in range(3)]
        program = [("given", 0), ("given", 1), ("given", 2)]
        self.check(program + [("where", 2, 0, 1)], [(2,)] * 3,
                   loads + [("fill", 3, (2,), ("where", reads[2], reads[0], reads[1]))])
        self.check(program[:2] + [("both", "less", 1, 0)], [(2,)] * 2,
                   loads[:2] + [("fill", 2, (2,), ("both", "less", reads[1], reads[0]))])

    def test_spread_together(self):
        self.check([("given", 0), ("given", 1), ("both", "add", 0, 1)], [(2, 1), (3,)],
                   [("load", 0, (2, 1), 0), ("load", 1, (3,), 1),
                    ("fill", 2, (2, 3), ("both", "add", ("read", 0, 0, (1, 0)), ("read", 1, 0, (0, 1))))])
        self.check([("given", 0), ("even", (), 4), ("both", "add", 0, 1)], [(2, 3)],
                   [("load", 0, (2, 3), 0), ("fill", 2, (2, 3), ("both", "add", READ_ALL, ("even", 4)))])

    def test_shift(self):
        self.over(("shift", 0, 1, 1, 9), (2, 3), ("within", (-1, 1, 1), 3, ("read", 0, -1, (3, 1)), 9))
        self.over(("shift", 0, 0, -2, 9), (2, 3), ("within", (2, 0, 1), 2, ("read", 0, 6, (3, 1)), 9))
        self.over(("shift", 0, 0, 0, 9), (2, 3), ("within", (0, 0, 1), 2, READ_ALL, 9))

    def test_a_shift_that_is_looked_at(self):
        self.check([("given", 0), ("shift", 0, 1, 1, 9), ("drop", 1, 1, 2)], [(2, 3)],
                   [("load", 0, (2, 3), 0),
                    ("fill", 2, (2,), ("within", (1, -1, 0), 3, ("read", 0, 1, (3,)), 9))])
        self.check([("given", 0), ("shift", 0, 1, 1, 9), ("cut", 1, 1, 2, -2, 2)], [(2, 3)],
                   [("load", 0, (2, 3), 0),
                    ("fill", 2, (2, 2), ("within", (1, 1, -2), 3, ("read", 0, 1, (3, -2)), 9))])

    def test_join(self):
        self.check([("given", 0), ("given", 1), ("join", 0, 1, 0)], [(2, 3), (1, 3)],
                   [("load", 0, (2, 3), 0), ("load", 1, (1, 3), 1),
                    ("fill", 2, (3, 3), ("joined", (0, 0, 1), 2, READ_ALL, ("read", 1, -6, (3, 1))))],
                   {0: 0, 1: 1, 2: 2}, [6, 3, 9])
        self.check([("given", 0), ("given", 1), ("join", 0, 1, 1)], [(2, 0), (2, 3)],
                   [("load", 0, (2, 0), 0), ("load", 1, (2, 3), 1),
                    ("fill", 2, (2, 3), ("joined", (0, 1, 1), 0, ("read", 0, 0, (0, 1)), ("read", 1, 0, (3, 1))))])

    def test_fold(self):
        self.check([("given", 0), ("fold", "add", 0, 0)], [(2, 3)],
                   [("load", 0, (2, 3), 0), ("fold", 1, (3,), 0, 2, "add", READ_ALL)], {0: 0, 1: 1}, [6, 3])
        self.check([("given", 0), ("one", "half", 0), ("fold", "most", 1, 1), ("one", "none", 2)], [(2, 3)],
                   [("load", 0, (2, 3), 0), ("fold", 2, (2,), 1, 3, "most", ("one", "half", READ_ALL)),
                    ("fill", 3, (2,), ("one", "none", ("read", 2, 0, (1,))))], {0: 0, 2: 1, 3: 0}, [6, 2])

    def test_through(self):
        self.check([("given", 0), ("run", "least", 0, 1)], [(2, 3)],
                   [("load", 0, (2, 3), 0), ("through", 1, (2, 3), 1, "least", READ_ALL)], {0: 0, 1: 1}, [6, 6])
        self.check([("even", (2, 0), 4), ("run", "most", 0, 1)], [],
                   [("through", 1, (2, 0), 1, "most", ("even", 4))], {1: 0}, [0])

    def test_pick(self):
        self.check([("given", 0), ("given", 1), ("pick", 0, 1, 1)], [(2, 3), (5,)],
                   [("load", 0, (2, 3), 0), ("load", 1, (5,), 1), ("pick", 2, (2, 5), 1, 0, 1, (2, 3))],
                   {0: 0, 1: 1, 2: 2}, [6, 5, 10])
        self.check([("given", 0), ("pick", 0, 0, 0)], [(4,)],
                   [("load", 0, (4,), 0), ("pick", 1, (4,), 0, 0, 0, (4,))], {0: 0, 1: 1}, [4, 4])

    def test_what_is_kept_is_read_within_a_tree(self):
        self.check([("given", 0), ("one", "half", 0), ("one", "none", 1), ("both", "add", 1, 2)], [(2, 3)],
                   [("load", 0, (2, 3), 0), ("fill", 1, (2, 3), ("one", "half", READ_ALL)),
                    ("fill", 3, (2, 3), ("both", "add", ("read", 1, 0, (3, 1)),
                                         ("one", "none", ("read", 1, 0, (3, 1)))))],
                   {0: 0, 1: 1, 3: 0}, [6, 6])


class Rows(unittest.TestCase):
    def check(self, program, given, row_of, lengths):
        plan = plan_of(program, given)
        self.assertEqual((plan.row_of, plan.lengths), (row_of, lengths))
        self.assertEqual(list(plan.row_of), [loop.line for loop in plan.loops])

    def test_two_rows_in_turn(self):
        program = [("given", 0)] + [("run", "add", at, 0) for at in range(6)]
        self.check(program, [(3,)], {0: 0, 1: 1, 2: 0, 3: 1, 4: 0, 5: 1, 6: 0}, [3, 3])

    def test_a_row_is_not_written_by_the_loop_that_reads_it(self):
        self.check([("given", 0), ("one", "half", 0)], [(3,)], {0: 0, 1: 1}, [3, 3])

    def test_the_lowest_row_that_is_free(self):
        program = [("given", 0), ("given", 1), ("given", 2), ("fold", "add", 1, 0), ("fold", "add", 0, 0),
                   ("both", "add", 3, 4), ("both", "add", 5, 2)]
        self.check(program, [(2,), (3,), (4,)], {0: 0, 1: 1, 2: 2, 3: 3, 4: 1, 5: 0, 6: 1}, [2, 4, 4, 1])

    def test_a_row_is_needed_until_its_last_reading(self):
        program = [("given", 0), ("fold", "add", 0, 0), ("run", "add", 0, 0), ("fold", "add", 2, 0),
                   ("both", "add", 0, 3), ("both", "add", 4, 1)]
        self.check(program, [(3,)], {0: 0, 1: 1, 2: 2, 3: 3, 5: 2}, [3, 1, 3, 1])

    def test_what_is_read_through_lines_that_are_not_kept(self):
        program = [("given", 0), ("one", "half", 0), ("given", 1), ("run", "add", 2, 0), ("both", "add", 1, 3)]
        self.check(program, [(3,), (3,)], {0: 0, 2: 1, 3: 2, 4: 1}, [3, 3, 3])

    def test_a_row_is_as_long_as_the_longest_table_in_it(self):
        program = [("given", 0), ("fold", "add", 0, 0), ("spread", 1, (2, 5)), ("fold", "add", 2, 0),
                   ("fold", "add", 3, 0)]
        self.check(program, [(3,)], {0: 0, 1: 1, 3: 0, 4: 1}, [5, 1])
        program = [("given", 0), ("fold", "add", 0, 0), ("run", "add", 1, 0)]
        self.check(program, [(8, 2)], {0: 0, 1: 1, 2: 0}, [16, 2])

    def test_tables_without_cells_have_rows(self):
        program = [("given", 0), ("one", "half", 0), ("shape", 1, (0,)), ("run", "most", 2, 0)]
        self.check(program, [(2, 0)], {0: 0, 1: 1, 3: 0}, [0, 0])

    def test_many_rows(self):
        program = [("given", at) for at in range(20)] + [("both", "add", 0, 1)]
        program += [("both", "add", 19 + at, 1 + at) for at in range(1, 19)]
        plan = plan_of(program, [(2,)] * 20)
        self.assertEqual(plan.row_of, {**{at: at for at in range(20)}, 38: 20})
        self.assertEqual(plan.lengths, [2] * 21)


class Many(unittest.TestCase):
    """Programs of all kinds of lines, made by seeds."""

    @classmethod
    def setUpClass(cls):
        cls.made = [program_of(seed, 1 + seed % 40, seed % 3 == 0) for seed in range(240)]

    def plans(self):
        for program, tables in self.made:
            given = [table.sides for table in tables]
            yield program, tables, plan_of(program, given), sides_of(program, given)

    def test_all_kinds_of_lines_loops_and_trees_are_among_them(self):
        words = set()

        def look(told):
            words.add(told[0])
            for part in told:
                if isinstance(part, tuple) and part and isinstance(part[0], str):
                    look(part)
        for program, tables, plan, sides in self.plans():
            for told in plan_told(plan)[0]:
                look(told)
        self.assertEqual(words, {"load", "fill", "fold", "through", "pick", "even", "read", "one", "both", "where",
                                 "within", "joined"})
        self.assertTrue(any(len(program) == 40 for program, tables in self.made))

    def test_one_loop_for_each_kept_line_in_their_order(self):
        kinds = {"given": "load", "fold": "fold", "run": "through", "pick": "pick"}
        for program, tables, plan, sides in self.plans():
            kept = [at for at, flag in enumerate(kept_lines(program, sides)) if flag]
            told = plan_told(plan)[0]
            self.assertEqual([loop[1] for loop in told], kept)
            self.assertEqual([loop[2] for loop in told], [sides[at] for at in kept])
            self.assertEqual([loop[0] for loop in told], [kinds.get(program[at][0], "fill") for at in kept])

    def test_lines_ahead_that_are_kept_are_read_alone(self):
        for program, tables, plan, sides in self.plans():
            kept = kept_lines(program, sides)
            for loop in plan_told(plan)[0]:
                for line in lines_read(loop):
                    self.assertTrue(line < loop[1] and kept[line])

    def test_each_loop_gives_the_cells_of_its_line(self):
        seen = 0
        for program, tables, plan, sides in self.plans():
            rows = {}
            for loop in plan_told(plan)[0]:
                try:
                    wanted = plain_answer(program[:loop[1] + 1], tables).cells
                except NoCell:
                    break
                rows[loop[1]] = cells_by(loop, rows, tables, [])
                self.assertEqual(rows[loop[1]], wanted, (program, loop))
                seen += 1
        self.assertGreater(seen, 500)

    def test_rows_by_the_point(self):
        for program, tables, plan, sides in self.plans():
            loops, row_of, lengths = plan_told(plan)
            self.assertEqual(row_of, rows_by_the_point(loops))
            self.assertIs(type(plan.row_of), dict)
            self.assertIs(type(plan.lengths), list)
            self.assertIs(type(plan.loops), list)

    def test_lengths_by_the_point(self):
        for program, tables, plan, sides in self.plans():
            longest = {}
            for loop in plan.loops:
                row = plan.row_of[loop.line]
                longest[row] = max(longest.get(row, 0), len(indexes(loop.sides)))
            self.assertEqual(plan.lengths, [longest[row] for row in range(len(longest))])

    def test_no_row_is_written_while_it_is_still_to_be_read(self):
        for program, tables, plan, sides in self.plans():
            holds = {}
            for loop in plan_told(plan)[0]:
                for line in lines_read(loop):
                    self.assertEqual(holds[plan.row_of[line]], line)
                    self.assertNotEqual(plan.row_of[line], plan.row_of[loop[1]])
                holds[plan.row_of[loop[1]]] = loop[1]

    def test_just_as_many_rows_as_some_loop_needs(self):
        for program, tables, plan, sides in self.plans():
            loops = plan_told(plan)[0]
            needs = [1 + sum(any(ahead[1] in lines_read(other) for other in loops[now:]) for ahead in loops[:now])
                     for now in range(len(loops))]
            self.assertEqual(len(plan.lengths), max(needs))


class WhatIsHandedInAndGivenBack(unittest.TestCase):
    PROGRAM = [("given", 0), ("turn", 0, (1, 0)), ("fold", "add", 1, 0), ("both", "add", 2, 2)]

    def test_a_plan_keeps_copies(self):
        loops, row_of, lengths = [], {0: 0}, [1]
        plan = Plan(loops, row_of, lengths)
        loops.append(1)
        row_of[1] = 1
        lengths.append(2)
        self.assertEqual((plan.loops, plan.row_of, plan.lengths), ([], {0: 0}, [1]))

    def test_a_later_change_of_what_was_handed_in_is_not_seen(self):
        program, given = list(self.PROGRAM), [(2, 3)]
        plan = plan_of(program, given)
        told = plan_told(plan)
        program[1] = ("even", (3, 2), 1)
        program.pop()
        given[0] = (9, 9)
        self.assertEqual(plan_told(plan), told)

    def test_a_change_of_a_plan_changes_no_other(self):
        first = plan_of(self.PROGRAM, [(2, 3)])
        told = plan_told(first)
        first.loops.pop()
        first.loops[0].table = 7
        first.loops[1].tree.start = 3
        first.row_of.clear()
        first.lengths.append(4)
        self.assertEqual(plan_told(plan_of(self.PROGRAM, [(2, 3)])), told)

    def test_a_line_that_cannot_be_is_refused_alike(self):
        given = [(2, 3)]
        tables = [Table((2, 3), [0] * 6)]
        for program in ([], [("given", 0)] * 41, [("given", 1)], [("given", 0), ("one", "half", 1)],
                        [("given", 0), ("one", "half", 9), ("given", 0)],
                        [("given", 0), ("even", (), -1), ("given", 0)],
                        [("given", 0), ("shift", 0, 2, 0, 1000003), ("given", 0)],
                        [("given", 0), ("drop", 0, 0, 2), ("given", 0)],
                        [("given", 0), ("turn", 0, (0, 0)), ("drop", 0, 0, 2)]):
            told = []
            for refuses in (lambda: sides_of(program, given), lambda: plan_of(program, given),
                            lambda: plain_answer(program, tables)):
                with self.assertRaises(BadLine) as taken:
                    refuses()
                told.append((taken.exception.at, taken.exception.why))
            self.assertEqual(told, [told[0]] * 3)

    def test_refused_as_the_point_tells(self):
        for program, told in (([], (0, "many")), ([("given", 0)] * 41, (40, "many")), ([("given", 1)], (0, "place")),
                              ([("given", 0), ("even", (), -1)], (1, "number")),
                              ([("given", 0), ("drop", 0, 0, 2), ("given", 0)], (1, "sides"))):
            with self.assertRaises(BadLine) as taken:
                plan_of(program, [(2, 3)])
            self.assertEqual((taken.exception.at, taken.exception.why), told)


if __name__ == "__main__":
    unittest.main()
