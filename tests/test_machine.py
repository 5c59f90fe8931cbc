"""Points 1, 9, 11, 12 and 14: runs of plans give the plain deeds' answer, and count deeds."""

import random
import unittest

from programs import cells_by, plan_told, program_of

from loomarrays.errors import BadLine, LoomError, NoCell, NoTable, NoText
from loomarrays.keeping import wanted_lines
from loomarrays.lines import sides_of
from loomarrays.loops import Fill, Fold, Load, Pick, Through
from loomarrays.machine import run_plan
from loomarrays.plain import plain_answer
from loomarrays.plans import Plan, plan_of
from loomarrays.sides import cells_in
from loomarrays.tables import Table
from loomarrays.trees import Both, Even, Joined, One, Read, Where, Within

# Where each kind of line names others.
NAMES = {"given": (), "even": (), "turn": (1,), "cut": (1,), "drop": (1,), "wide": (1,), "spread": (1,), "shape": (1,),
         "shift": (1,), "one": (2,), "both": (2, 3), "where": (1, 2, 3), "fold": (2,), "run": (2,), "pick": (1, 3),
         "join": (1, 2)}


def sides_given(tables):
    return [table.sides for table in tables]


def ran(program, tables):
    """What a run of the program's plan gives."""
    return run_plan(plan_of(program, sides_given(tables)), tables)


def renamed(line, names):
    """The line with the lines that it names called otherwise."""
    return tuple(names[part] if at in NAMES[line[0]] else part for at, part in enumerate(line))


def with_idle_lines(program, given, rng):
    """The program with lines put in that nobody wants; and what each line that was there is called now."""
    made, names = [], {}
    for at, line in enumerate(program):
        while made and len(made) + len(program) - at < 40 and rng.randrange(2):
            named = rng.randrange(len(made))
            own = sides_of(made, given)[named]
            made.append(rng.choice((("one", "half", named), ("both", "add", named, named), ("shape", named, own),
                                    ("spread", named, own), ("even", (2,), 5), ("given", 0),
                                    ("run", "add", named, 0) if own else ("wide", named, 0),
                                    ("pick", named, 0, named) if len(own) == 1 else ("where", named, named, named))))
        names[at] = len(made)
        made.append(renamed(line, names))
    return made, names


class Answers(unittest.TestCase):
    def test_many_programs_give_the_plain_answer(self):
        answered = refused = 0
        for seed in range(400):
            program, tables = program_of(seed, 1 + seed % 40, seed % 3 == 0)
            try:
                wanted = plain_answer(program, tables)
            except NoCell:
                with self.assertRaises(NoCell):
                    ran(program, tables)
                refused += 1
                continue
            answer, done = ran(program, tables)
            self.assertIs(type(answer), Table)
            self.assertEqual((answer.sides, answer.cells), (wanted.sides, wanted.cells), program)
            answered += 1
        self.assertGreater(answered, 200)
        self.assertGreater(refused, 40)

    def test_full_tables(self):
        table = Table((64, 64), [place * 7919 % 1000003 for place in range(4096)])
        places = Table((64,), [place * 5 % 64 for place in range(64)])
        program = [("given", 0), ("given", 1), ("turn", 0, (1, 0)), ("both", "times", 0, 2), ("run", "add", 3, 1),
                   ("pick", 4, 0, 1), ("shift", 5, 1, -7, 3), ("cut", 6, 0, 63, -1, 64), ("shape", 7, (8, 8, 8, 8)),
                   ("fold", "most", 8, 2), ("shape", 9, (8, 64))]
        answer = ran(program, [table, places])[0]
        wanted = plain_answer(program, [table, places])
        self.assertEqual((answer.sides, answer.cells), (wanted.sides, wanted.cells))

    def test_forty_lines(self):
        program = [("given", 0)] + [("both", "add", at, 0) for at in range(39)]
        answer, done = ran(program, [Table((2,), [1, 5])])
        self.assertEqual((answer.cells, done), ([40, 200], 78))

    def test_no_sides_and_no_cells(self):
        answer, done = ran([("given", 0), ("one", "minus", 0)], [Table((), [3])])
        self.assertEqual((answer.sides, answer.cells, done), ((), [1000000], 1))
        answer, done = ran([("given", 0), ("one", "minus", 0)], [Table((2, 0), [])])
        self.assertEqual((answer.sides, answer.cells, done), ((2, 0), [], 0))
        answer, done = ran([("given", 0), ("fold", "times", 0, 1)], [Table((2, 0), [])])
        self.assertEqual((answer.sides, answer.cells, done), ((2,), [1, 1], 0))
        answer, done = ran([("given", 0), ("fold", "add", 0, 1)], [Table((2, 0), [])])
        self.assertEqual((answer.sides, answer.cells, done), ((2,), [0, 0], 0))

    def test_a_shorter_table_in_a_longer_row(self):
        program = [("given", 0), ("fold", "add", 0, 0), ("fold", "add", 1, 0), ("spread", 2, (2,))]
        answer, done = ran(program, [Table((2, 3), [1, 2, 3, 4, 5, 6])])
        self.assertEqual((answer.sides, answer.cells), ((2,), [21, 21]))

    def test_what_is_given_back_is_a_pair(self):
        told = ran([("even", (2,), 3)], [])
        self.assertIs(type(told), tuple)
        self.assertEqual(len(told), 2)
        self.assertIs(type(told[1]), int)


class Refusals(unittest.TestCase):
    def refused(self, program, tables):
        for taken in (NoCell, LoomError, ValueError):
            with self.assertRaises(taken) as told:
                ran(program, tables)
            self.assertNotIsInstance(told.exception, (BadLine, NoTable, NoText))

    def test_a_number_that_is_not_a_place(self):
        program = [("given", 0), ("given", 1), ("pick", 0, 1, 1)]
        for numbers in ([3], [0, 3], [3, 0], [0, 1, 2, 4], [1000002]):
            self.refused(program, [Table((2, 3), [0] * 6), Table((len(numbers),), numbers)])
        self.refused(program, [Table((2, 0), []), Table((1,), [0])])
        self.refused(program + [("drop", 2, 1, 0)], [Table((2, 3), [0] * 6), Table((2,), [0, 3])])

    def test_a_cell_that_is_not_made_refuses_nothing(self):
        program = [("given", 0), ("given", 1), ("pick", 0, 1, 1)]
        answer, done = ran(program, [Table((0, 3), []), Table((2,), [9, 9])])
        self.assertEqual((answer.sides, answer.cells, done), ((0, 2), [], 0))

    def test_a_pick_on_which_the_answer_does_not_hang_refuses_nothing(self):
        program = [("given", 0), ("given", 1), ("pick", 0, 0, 1), ("one", "half", 0)]
        answer, done = ran(program, [Table((2,), [8, 6]), Table((2,), [9, 9])])
        self.assertEqual((answer.cells, done), ([4, 3], 2))


class CountsOfDeeds(unittest.TestCase):
    FOUR = Table((4,), [0, 7, 0, 9])
    OTHER = Table((4,), [1, 2, 3, 4])

    def counted(self, program, many, tables=(FOUR, OTHER)):
        self.assertEqual(ran(program, list(tables))[1], many, program)

    def test_each_deed_counts_once_a_cell(self):
        self.counted([("given", 0), ("one", "half", 0)], 4)
        self.counted([("given", 0), ("both", "add", 0, 0)], 4)
        self.counted([("given", 0), ("where", 0, 0, 0)], 4)
        self.counted([("given", 0), ("one", "half", 0), ("one", "none", 1), ("both", "add", 0, 2)], 12)

    def test_other_loops_and_views_do_none(self):
        for line in (("turn", 0, (0,)), ("cut", 0, 0, 0, 1, 2), ("drop", 0, 0, 1), ("wide", 0, 0),
                     ("spread", 0, (2, 4)), ("shape", 0, (2, 2)), ("shift", 0, 0, 1, 5), ("fold", "add", 0, 0),
                     ("run", "times", 0, 0), ("join", 0, 0, 0)):
            self.counted([("given", 0), line], 0)
        self.counted([("given", 0)], 0)
        self.counted([("even", (4,), 2)], 0)
        self.counted([("even", (4,), 2), ("given", 1), ("pick", 1, 0, 0)], 0)

    def test_a_deed_with_an_even_counts(self):
        self.counted([("even", (3,), 2), ("one", "half", 0)], 3)

    def test_of_a_where_only_what_is_asked_for_is_reckoned(self):
        deep = [("given", 0), ("given", 1), ("one", "half", 1), ("one", "half", 2), ("one", "none", 1)]
        # Two of the four cells ask for the two deeds of line 3, two for the one of line 4.
        self.counted(deep + [("where", 0, 3, 4)], 4 + 2 * 2 + 2)
        self.counted(deep + [("where", 0, 3, 1)], 4 + 2 * 2)
        self.counted(deep + [("where", 0, 1, 3)], 4 + 2 * 2)
        self.counted(deep + [("where", 4, 3, 1)], 4 + 4)

    def test_cells_that_are_not_looked_at_are_not_reckoned(self):
        begun = [("given", 0), ("one", "half", 0)]
        self.counted(begun + [("cut", 1, 0, 1, 2, 2)], 2)
        self.counted(begun + [("cut", 1, 0, 1, 2, 0)], 0)
        self.counted(begun + [("drop", 1, 0, 3)], 1)
        self.counted(begun + [("shift", 1, 0, 1, 5)], 3)
        self.counted(begun + [("shift", 1, 0, -3, 5)], 1)
        self.counted(begun + [("shift", 1, 0, 9, 5)], 0)
        self.counted(begun + [("turn", 1, (0,))], 4)
        self.counted(begun + [("join", 1, 0, 0)], 4)
        self.counted(begun + [("join", 0, 1, 0)], 4)

    def test_no_cell_is_reckoned_twice(self):
        begun = [("given", 0), ("one", "half", 0)]
        self.counted(begun + [("spread", 1, (5, 4))], 4)
        self.counted(begun + [("join", 1, 1, 0)], 4)
        self.counted(begun + [("both", "add", 1, 1)], 8)
        self.counted(begun + [("wide", 1, 1), ("both", "add", 1, 2)], 4 + 16)
        self.counted(begun + [("run", "add", 1, 0)], 4)
        self.counted(begun + [("fold", "add", 1, 0)], 4)
        self.counted(begun + [("pick", 0, 0, 1)], 4, [Table((4,), [0, 7, 0, 1])])
        self.counted(begun + [("shape", 1, (2, 2)), ("both", "add", 2, 2)], 8)

    def test_a_fold_counts_the_deeds_of_its_tree(self):
        tables = [Table((2, 3), [1, 2, 3, 4, 5, 6])]
        program = [("given", 0), ("one", "half", 0), ("fold", "add", 1, 1)]
        self.counted(program, 6, tables)
        self.counted(program + [("one", "minus", 2)], 8, tables)
        self.counted(program, 0, [Table((2, 0), [])])

    def test_lines_on_which_the_answer_does_not_hang_count_nothing(self):
        self.counted([("given", 0), ("one", "half", 0), ("given", 1), ("one", "none", 2)], 4)

    def test_counts_of_many_programs(self):
        counted = 0
        for seed in range(300):
            program, tables = program_of(seed, 1 + seed % 40, seed % 5 == 0)
            plan = plan_of(program, sides_given(tables))
            try:
                answer, many = run_plan(plan, tables)
            except NoCell:
                continue
            rows, done = {}, []
            for loop in plan_told(plan)[0]:
                rows[loop[1]] = cells_by(loop, rows, tables, done)
            self.assertEqual(many, len(done), program)
            counted += many > 0
        self.assertGreater(counted, 80)

    def test_at_most_as_many_as_the_wanted_lines_have_cells(self):
        for seed in range(200):
            program, tables = program_of(seed, 1 + seed % 40, seed % 5 == 0)
            sides = sides_of(program, sides_given(tables))
            most = sum(cells_in(own) for own, wanted, line in zip(sides, wanted_lines(program), program)
                       if wanted and line[0] in ("one", "both", "where"))
            try:
                self.assertLessEqual(ran(program, tables)[1], most)
            except NoCell:
                pass


class TheSamePlanAgain(unittest.TestCase):
    def test_runs_leave_the_plan_as_it_is(self):
        for seed in range(100):
            program, tables = program_of(seed, 1 + seed % 40, seed % 5 == 0)
            plan = plan_of(program, sides_given(tables))
            told = plan_told(plan)
            try:
                run_plan(plan, tables)
            except NoCell:
                pass
            self.assertEqual(plan_told(plan), told)

    def test_with_other_tables_between(self):
        program = [("given", 0), ("given", 1), ("both", "add", 0, 1), ("run", "add", 2, 0), ("fold", "most", 3, 0),
                   ("where", 0, 3, 4)]
        plan = plan_of(program, [(3,), (3,)])
        first = [Table((3,), [1, 0, 3]), Table((3,), [5, 6, 7])]
        second = [Table((3,), [0, 9, 0]), Table((3,), [2, 2, 1000002])]
        answers = []
        for tables in (first, second, first, second):
            answer, done = run_plan(plan, tables)
            self.assertEqual(answer.cells, plain_answer(program, tables).cells)
            answers.append((answer.cells, done))
        self.assertEqual(answers[:2], answers[2:])
        self.assertNotEqual(answers[0], answers[1])

    def test_after_a_refusal(self):
        plan = plan_of([("given", 0), ("given", 1), ("pick", 0, 0, 1)], [(2,), (2,)])
        with self.assertRaises(NoCell):
            run_plan(plan, [Table((2,), [5, 6]), Table((2,), [1, 2])])
        answer, done = run_plan(plan, [Table((2,), [5, 6]), Table((2,), [1, 0])])
        self.assertEqual((answer.cells, done), ([6, 5], 0))

    def test_after_the_answer_has_been_changed(self):
        for program in ([("given", 0)], [("even", (3,), 2)], [("given", 0), ("one", "half", 0)],
                        [("given", 0), ("turn", 0, (0,))], [("given", 0), ("run", "add", 0, 0)]):
            tables = [Table((3,), [4, 5, 6])]
            plan = plan_of(program, [(3,)])
            first, done = run_plan(plan, tables)
            told = list(first.cells)
            for place in range(3):
                first.cells[place] = 77
            first.cells.append(1)
            second, again = run_plan(plan, tables)
            self.assertEqual((second.cells, again), (told, done))
            self.assertEqual(tables[0].cells, [4, 5, 6])

    def test_tables_stay_as_they_were(self):
        for seed in range(60):
            program, tables = program_of(seed, 1 + seed % 40)
            held = [(table.sides, list(table.cells)) for table in tables]
            listed = list(tables)
            try:
                ran(program, tables)
            except NoCell:
                pass
            self.assertEqual([(table.sides, table.cells) for table in tables], held)
            self.assertEqual([id(table) for table in tables], [id(table) for table in listed])


class IdleLines(unittest.TestCase):
    def test_lines_that_nobody_names_change_nothing(self):
        changed = 0
        for seed in range(150):
            program, tables = program_of(seed, 1 + seed % 24, seed % 5 == 0)
            given = sides_given(tables)
            longer, names = with_idle_lines(program, given, random.Random(seed))
            changed += len(longer) > len(program)
            self.assertEqual(plan_told(plan_of(longer, given)), plan_told(plan_of(program, given), names))
            try:
                answer, done = ran(program, tables)
            except NoCell:
                self.assertRaises(NoCell, ran, longer, tables)
                self.assertRaises(NoCell, plain_answer, longer, tables)
                continue
            other, again = ran(longer, tables)
            self.assertEqual((other.sides, other.cells, again), (answer.sides, answer.cells, done))
            self.assertEqual(plain_answer(longer, tables).cells, answer.cells)
        self.assertGreater(changed, 100)


class PlansMadeByHand(unittest.TestCase):
    """Each loop and each tree by itself."""

    def run_tree(self, tree, many=4):
        table = Table((many,), [10 + place for place in range(many)])
        plan = Plan([Load(0, (many,), 0), Fill(1, (many,), tree)], {0: 0, 1: 1}, [many, many])
        answer, done = run_plan(plan, [table])
        return answer.cells, done

    def test_even_and_read(self):
        self.assertEqual(self.run_tree(Even(5)), ([5, 5, 5, 5], 0))
        self.assertEqual(self.run_tree(Read(0, 0, (1,))), ([10, 11, 12, 13], 0))
        self.assertEqual(self.run_tree(Read(0, 3, (-1,))), ([13, 12, 11, 10], 0))
        self.assertEqual(self.run_tree(Read(0, 2, (0,))), ([12, 12, 12, 12], 0))

    def test_one_and_both(self):
        self.assertEqual(self.run_tree(One("half", Read(0, 0, (1,)))), ([5, 5, 6, 6], 4))
        tree = Both("less", Read(0, 0, (1,)), One("half", Even(3)))
        self.assertEqual(self.run_tree(tree), ([9, 10, 11, 12], 8))

    def test_where(self):
        asked = Both("below", Even(11), Read(0, 0, (1,)))
        self.assertEqual(self.run_tree(Where(asked, Even(1), One("none", Even(1)))), ([0, 0, 1, 1], 10))
        # What is not asked for is not even read.
        self.assertEqual(self.run_tree(Where(Even(2), Even(1), Read(0, 99, (0,)))), ([1, 1, 1, 1], 4))
        self.assertEqual(self.run_tree(Where(Even(0), Read(0, 99, (0,)), Even(1))), ([1, 1, 1, 1], 4))

    def test_within(self):
        tree = Within((-1, 0, 1), 2, Read(0, 0, (1,)), 7)
        self.assertEqual(self.run_tree(tree), ([7, 11, 12, 7], 0))
        self.assertEqual(self.run_tree(Within((2, -1, 0), 2, Even(1), 7)), ([7, 7, 7, 7], 0))
        self.assertEqual(self.run_tree(Within((1, -1, 0), 2, One("none", Even(0)), 7)), ([1, 1, 1, 1], 4))

    def test_joined(self):
        tree = Joined((0, 0, 1), 3, Read(0, 0, (1,)), Even(7))
        self.assertEqual(self.run_tree(tree), ([10, 11, 12, 7], 0))
        self.assertEqual(self.run_tree(Joined((3, 0, -1), 3, Even(1), One("none", Even(0)))), ([1, 1, 1, 1], 1))

    def run_loop(self, loop, cells):
        table = Table((2, 3), [5, 3, 4, 1, 9, 2])
        places = Table((2,), [2, 0])
        plan = Plan([Load(0, (2, 3), 0), Load(1, (2,), 1), loop], {0: 1, 1: 2, 2: 0}, [9, 6, 7])
        answer, done = run_plan(plan, [table, places])
        self.assertEqual((answer.sides, answer.cells, done), (loop.sides, cells, 0))

    def test_loops(self):
        whole = Read(0, 0, (3, 1))
        self.run_loop(Load(2, (2,), 1), [2, 0])
        self.run_loop(Fill(2, (3, 2), Read(0, 0, (1, 3))), [5, 1, 3, 9, 4, 2])
        self.run_loop(Fold(2, (3,), 0, 2, "add", whole), [6, 12, 6])
        self.run_loop(Fold(2, (2,), 1, 3, "least", whole), [3, 1])
        self.run_loop(Fold(2, (2,), 1, 0, "times", whole), [1, 1])
        self.run_loop(Through(2, (2, 3), 1, "add", whole), [5, 8, 12, 1, 10, 12])
        self.run_loop(Through(2, (2, 3), 0, "most", whole), [5, 3, 4, 5, 9, 4])
        self.run_loop(Pick(2, (2, 2), 1, 0, 1, (2, 3)), [4, 5, 2, 1])


if __name__ == "__main__":
    unittest.main()
