"""Points 7 and 8: on which lines the answer hangs, and which of them are kept."""

import unittest

from loomarrays.keeping import kept_lines, wanted_lines
from loomarrays.lines import sides_of

GIVEN = [(2, 3), (3,), (3,)]


def numbers_of(flags):
    """The numbers of the lines that are told to be so."""
    return [at for at, flag in enumerate(flags) if flag]


class Wanted(unittest.TestCase):
    def check(self, program, wanted):
        answer = wanted_lines(program)
        self.assertIs(type(answer), list)
        self.assertEqual([type(flag) for flag in answer], [bool] * len(program))
        self.assertEqual(numbers_of(answer), wanted, program)

    def test_one_line(self):
        self.check([("even", (), 1)], [0])

    def test_the_last_line_alone(self):
        self.check([("even", (), 1), ("even", (), 2), ("even", (), 3)], [2])

    def test_each_kind_names_its_lines(self):
        ahead = [("even", (2,), 1)] * 6
        for line, named in ((("given", 2), []), (("even", (2,), 3), []), (("turn", 2, (0,)), [2]),
                            (("cut", 2, 0, 1, 1, 1), [2]), (("drop", 2, 0, 1), [2]), (("wide", 2, 1), [2]),
                            (("spread", 2, (3, 2)), [2]), (("shape", 2, (2, 1)), [2]), (("shift", 2, 0, 1, 4), [2]),
                            (("one", "half", 2), [2]), (("both", "add", 2, 4), [2, 4]),
                            (("both", "add", 5, 0), [0, 5]), (("where", 5, 2, 3), [2, 3, 5]),
                            (("fold", "add", 2, 0), [2]), (("run", "add", 2, 0), [2]), (("pick", 2, 0, 4), [2, 4]),
                            (("join", 2, 4, 0), [2, 4]), (("join", 3, 3, 0), [3])):
            self.check(ahead + [line], named + [6])

    def test_line_after_line(self):
        self.check([("even", (), 1), ("one", "half", 0), ("even", (), 2), ("one", "half", 1), ("one", "minus", 2),
                    ("one", "half", 3)], [0, 1, 3, 5])

    def test_what_only_unwanted_lines_name(self):
        self.check([("even", (), 1), ("one", "half", 0), ("one", "half", 1), ("even", (), 5)], [3])

    def test_forty_lines(self):
        self.check([("even", (), 1)] + [("one", "half", at) for at in range(39)], list(range(40)))


class Kept(unittest.TestCase):
    def check(self, program, kept):
        sides = sides_of(program, GIVEN)
        held = (list(program), list(sides))
        answer = kept_lines(program, sides)
        self.assertIs(type(answer), list)
        self.assertEqual([type(flag) for flag in answer], [bool] * len(program))
        self.assertEqual(numbers_of(answer), kept, program)
        self.assertEqual((program, sides), held)

    def test_the_last_line_of_each_kind(self):
        self.check([("given", 0)], [0])
        self.check([("even", (2,), 1)], [0])
        for line in (("turn", 0, (1, 0)), ("cut", 0, 0, 0, 1, 1), ("drop", 0, 1, 0), ("wide", 0, 1),
                     ("spread", 0, (4, 2, 3)), ("shape", 0, (6,)), ("shift", 0, 0, 1, 0), ("one", "half", 0),
                     ("both", "add", 0, 0), ("where", 0, 0, 0), ("fold", "add", 0, 0), ("run", "add", 0, 0),
                     ("join", 0, 0, 0)):
            self.check([("given", 0), line], [0, 1])

    def test_given(self):
        self.check([("given", 0), ("one", "half", 0), ("one", "half", 1)], [0, 2])

    def test_fold(self):
        self.check([("given", 0), ("fold", "add", 0, 0), ("one", "half", 1)], [0, 1, 2])

    def test_run(self):
        self.check([("given", 0), ("run", "add", 0, 0), ("one", "half", 1)], [0, 1, 2])

    def test_pick(self):
        self.check([("given", 0), ("given", 1), ("pick", 0, 1, 1), ("one", "half", 2)], [0, 1, 2, 3])

    def test_what_a_fold_or_a_run_names_is_not_kept_for_it(self):
        self.check([("given", 0), ("one", "half", 0), ("fold", "add", 1, 0)], [0, 2])
        self.check([("given", 0), ("one", "half", 0), ("run", "add", 1, 0)], [0, 2])

    def test_no_other_kind_is_kept_by_itself(self):
        for line in (("turn", 0, (1, 0)), ("cut", 0, 0, 0, 1, 1), ("drop", 0, 1, 0), ("wide", 0, 1),
                     ("spread", 0, (4, 2, 3)), ("shape", 0, (6,)), ("shift", 0, 0, 1, 0), ("one", "half", 0),
                     ("both", "add", 0, 0), ("where", 0, 0, 0), ("join", 0, 0, 0)):
            self.check([("given", 0), line, ("one", "half", 1)], [0, 2])
            self.check([("given", 0), line, ("shift", 1, 0, 1, 0)], [0, 2])
            self.check([("given", 0), line, ("cut", 1, 0, 0, 1, 1)], [0, 2])
            self.check([("given", 0), line, ("drop", 1, 0, 0)], [0, 2])
            self.check([("given", 0), line, ("wide", 1, 0)], [0, 2])

    def test_what_a_shape_names(self):
        self.check([("given", 0), ("one", "half", 0), ("shape", 1, (6,))], [0, 1, 2])
        self.check([("given", 0), ("one", "half", 0), ("shape", 1, (2, 3))], [0, 1, 2])
        self.check([("given", 0), ("shape", 0, (6,)), ("shape", 1, (3, 2)), ("one", "half", 2)], [0, 1, 3])

    def test_what_a_pick_names(self):
        program = [("given", 0), ("one", "half", 0), ("given", 1), ("one", "half", 2), ("pick", 1, 1, 3)]
        self.check(program, [0, 1, 2, 3, 4])

    def test_what_is_named_more_than_once(self):
        self.check([("given", 0), ("one", "half", 0), ("one", "half", 1), ("one", "none", 1), ("both", "add", 2, 3)],
                   [0, 1, 4])
        self.check([("given", 0), ("one", "half", 0), ("one", "half", 1), ("both", "add", 1, 2)], [0, 1, 3])

    def test_what_one_line_names_twice(self):
        self.check([("given", 0), ("one", "half", 0), ("both", "add", 1, 1)], [0, 1, 2])
        self.check([("given", 0), ("one", "half", 0), ("join", 1, 1, 0)], [0, 1, 2])
        for line in (("where", 1, 1, 2), ("where", 1, 2, 1), ("where", 2, 1, 1)):
            self.check([("given", 0), ("one", "half", 0), ("one", "none", 0), line], [0, 1, 3])

    def test_what_is_named_once_with_the_same_sides_is_not(self):
        program = [("given", 0), ("one", "half", 0), ("one", "none", 0), ("one", "minus", 0)]
        self.check(program + [("where", 1, 2, 3)], [0, 4])
        self.check(program[:3] + [("both", "add", 1, 2)], [0, 3])
        self.check(program[:3] + [("join", 1, 2, 1)], [0, 3])
        self.check(program[:2] + [("spread", 1, (2, 3))], [0, 2])

    def test_what_a_spread_names_with_other_sides(self):
        self.check([("given", 1), ("one", "half", 0), ("spread", 1, (2, 3))], [0, 1, 2])
        self.check([("given", 1), ("one", "half", 0), ("spread", 1, (1, 3))], [0, 1, 2])
        self.check([("given", 1), ("wide", 0, 0), ("spread", 1, (2, 3))], [0, 1, 2])

    def test_what_a_both_names_with_other_sides(self):
        program = [("given", 0), ("one", "half", 0), ("given", 1), ("one", "half", 2)]
        self.check(program + [("both", "add", 1, 3)], [0, 2, 3, 4])
        self.check(program + [("both", "add", 3, 1)], [0, 2, 3, 4])

    def test_a_both_may_spread_the_two(self):
        program = [("given", 1), ("wide", 0, 0), ("given", 2), ("wide", 2, 1), ("both", "add", 1, 3)]
        self.check(program, [0, 1, 2, 3, 4])

    def test_what_a_where_names_with_other_sides(self):
        program = [("given", 0), ("one", "half", 0), ("one", "none", 0), ("given", 1), ("one", "half", 3)]
        for line in (("where", 1, 2, 4), ("where", 1, 4, 2), ("where", 4, 1, 2)):
            self.check(program + [line], [0, 3, 4, 5])

    def test_sides_count_even_where_there_is_no_cell(self):
        program = [("even", (0,), 1), ("one", "half", 0), ("spread", 1, (2, 0))]
        self.check(program, [1, 2])

    def test_an_even_named_twice_is_not(self):
        self.check([("even", (2,), 1), ("both", "add", 0, 0)], [1])
        self.check([("even", (2,), 1), ("one", "half", 0), ("one", "none", 0), ("both", "add", 1, 2)], [3])
        self.check([("even", (2,), 1), ("join", 0, 0, 0)], [1])

    def test_an_even_with_other_sides_is_not(self):
        self.check([("even", (), 1), ("spread", 0, (2, 3))], [1])
        self.check([("even", (), 1), ("given", 0), ("both", "add", 0, 1)], [1, 2])
        self.check([("even", (), 1), ("given", 0), ("both", "add", 1, 0)], [1, 2])
        for line in (("where", 0, 1, 1), ("where", 1, 0, 1), ("where", 1, 1, 0)):
            self.check([("even", (), 1), ("given", 0), line], [1, 2])

    def test_an_even_in_every_other_place_is_not(self):
        for line in (("turn", 0, (1, 0)), ("cut", 0, 0, 0, 1, 1), ("drop", 0, 1, 0), ("wide", 0, 1),
                     ("shift", 0, 0, 1, 0), ("one", "half", 0), ("fold", "add", 0, 0), ("run", "add", 0, 0)):
            self.check([("even", (2, 3), 1), line], [1])

    def test_an_even_named_by_a_shape_or_a_pick(self):
        self.check([("even", (2, 3), 1), ("shape", 0, (6,))], [0, 1])
        self.check([("even", (2, 3), 1), ("given", 1), ("pick", 0, 1, 1)], [0, 1, 2])
        self.check([("even", (3,), 1), ("given", 0), ("pick", 1, 1, 0)], [0, 1, 2])
        self.check([("even", (3,), 1), ("pick", 0, 0, 0)], [0, 1])
        self.check([("even", (3,), 1), ("shape", 0, (1, 3)), ("both", "add", 0, 1)], [0, 2])

    def test_lines_on_which_the_answer_does_not_hang_are_not(self):
        self.check([("given", 0), ("fold", "add", 0, 0), ("even", (), 2)], [2])
        self.check([("given", 1), ("given", 0), ("run", "add", 0, 0), ("one", "half", 1)], [1, 3])

    def test_lines_on_which_it_does_not_hang_keep_nothing(self):
        program = [("given", 1), ("one", "half", 0)]
        for line in (("shape", 1, (1, 3)), ("pick", 1, 0, 1), ("one", "none", 1), ("spread", 1, (2, 3)),
                     ("both", "add", 1, 1)):
            self.check(program + [line, ("one", "minus", 1)], [0, 3])
        self.check([("even", (3,), 1), ("shape", 0, (1, 3)), ("pick", 0, 0, 0), ("one", "half", 0)], [3])


class EachCall(unittest.TestCase):
    def test_gives_a_new_list(self):
        program = [("given", 0), ("one", "half", 0), ("one", "half", 1)]
        sides = sides_of(program, GIVEN)
        wanted, kept = wanted_lines(program), kept_lines(program, sides)
        wanted[1] = False
        wanted.append(True)
        kept[0] = False
        kept.append(True)
        self.assertEqual(wanted_lines(program), [True, True, True])
        self.assertEqual(kept_lines(program, sides), [True, False, True])

    def test_leaves_the_program_as_it_was(self):
        program = [("given", 0), ("even", (2, 3), 1), ("both", "add", 0, 1)]
        wanted_lines(program)
        self.assertEqual(program, [("given", 0), ("even", (2, 3), 1), ("both", "add", 0, 1)])


if __name__ == "__main__":
    unittest.main()
