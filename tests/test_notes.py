"""Points 15 and 16: programs as texts."""

import unittest

from programs import program_of

from loomarrays.errors import BadLine, LoomError, NoCell, NoTable, NoText
from loomarrays.notes import read_program, written_program

TWELVE = 999999999999
# Each kind of line, and the row that it is written as.
ROWS = (
    (("given", 3), "given 3"),
    (("even", (2, 3), 7), "even 2,3 7"),
    (("even", (), 0), "even - 0"),
    (("turn", 1, (2, 0, 1)), "turn 1 2,0,1"),
    (("turn", 1, ()), "turn 1 -"),
    (("cut", 1, 0, 5, -2, 3), "cut 1 0 5 -2 3"),
    (("drop", 4, 1, 2), "drop 4 1 2"),
    (("wide", 4, 1), "wide 4 1"),
    (("spread", 4, (2, 3)), "spread 4 2,3"),
    (("spread", 4, ()), "spread 4 -"),
    (("shape", 4, (6,)), "shape 4 6"),
    (("shape", 4, ()), "shape 4 -"),
    (("shift", 4, 1, -3, 1000002), "shift 4 1 -3 1000002"),
    (("one", "minus", 5), "one minus 5"),
    (("one", "half", 5), "one half 5"),
    (("one", "none", 5), "one none 5"),
    (("both", "add", 5, 6), "both add 5 6"),
    (("both", "less", 5, 6), "both less 5 6"),
    (("both", "times", 5, 6), "both times 5 6"),
    (("both", "least", 5, 6), "both least 5 6"),
    (("both", "most", 5, 6), "both most 5 6"),
    (("both", "below", 5, 6), "both below 5 6"),
    (("both", "alike", 5, 6), "both alike 5 6"),
    (("where", 7, 8, 9), "where 7 8 9"),
    (("fold", "add", 5, 0), "fold add 5 0"),
    (("fold", "times", 5, 0), "fold times 5 0"),
    (("fold", "least", 5, 0), "fold least 5 0"),
    (("fold", "most", 5, 0), "fold most 5 0"),
    (("run", "add", 5, 0), "run add 5 0"),
    (("run", "times", 5, 0), "run times 5 0"),
    (("run", "least", 5, 0), "run least 5 0"),
    (("run", "most", 5, 0), "run most 5 0"),
    (("pick", 5, 1, 6), "pick 5 1 6"),
    (("join", 5, 6, 1), "join 5 6 1"),
    # Lines that cannot be, which a text does not look at.
    (("given", -1), "given -1"),
    (("even", (-1, 0, -64, 10, 5), -7), "even -1,0,-64,10,5 -7"),
    (("shape", -4, (-6,)), "shape -4 -6"),
    (("cut", TWELVE, -TWELVE, 0, 10, -10), "cut 999999999999 -999999999999 0 10 -10"),
    (("turn", 100000000000, (TWELVE, -TWELVE)), "turn 100000000000 999999999999,-999999999999"),
)


class Texts(unittest.TestCase):
    def test_each_line_is_written_as_its_row(self):
        for line, row in ROWS:
            self.assertEqual(written_program([line]), row)

    def test_each_row_is_read_to_its_line(self):
        for line, row in ROWS:
            program = read_program(row)
            self.assertIs(type(program), list)
            self.assertEqual(program, [line])
            self.assertIs(type(program[0]), tuple)
            self.assertEqual([type(part) for part in program[0]], [type(part) for part in line])

    def test_rows_are_parted_by_one_line_feed(self):
        program = [line for line, row in ROWS]
        text = "\n".join(row for line, row in ROWS)
        self.assertEqual(written_program(program), text)
        self.assertEqual(read_program(text), program)

    def test_all_sixteen_kinds_are_among_them(self):
        self.assertEqual(len({line[0] for line, row in ROWS}), 16)

    def test_many_programs_are_read_to_the_same(self):
        for seed in range(80):
            program = program_of(seed, 1 + seed % 40, seed % 4 == 0)[0]
            held = list(program)
            text = written_program(program)
            self.assertEqual(program, held)
            self.assertEqual(read_program(text), program)
            self.assertEqual(written_program(read_program(text)), text)

    def test_a_program_without_lines_is_an_empty_text(self):
        self.assertEqual(written_program([]), "")

    def test_more_than_forty_lines_are_written_and_read(self):
        program = [("given", number) for number in range(50)]
        self.assertEqual(read_program(written_program(program)), program)

    def test_longer_numbers_are_written(self):
        self.assertEqual(written_program([("given", 10 ** 12)]), "given 1000000000000")

    def test_what_is_given_back_is_new(self):
        first = read_program("given 0\ngiven 1")
        first.pop()
        self.assertEqual(read_program("given 0\ngiven 1"), [("given", 0), ("given", 1)])


class BadTexts(unittest.TestCase):
    def bad(self, row):
        """That a row is bad, wherever it stands, and is told by its number."""
        for ahead in range(4):
            self.refused("\n".join(["given 0"] * ahead + [row]), ahead)
            self.refused("\n".join(["given 0"] * ahead + [row] + ["given 0"] * 2), ahead)

    def refused(self, text, row):
        with self.assertRaises(NoText, msg=repr(text)) as taken:
            read_program(text)
        self.assertEqual(taken.exception.row, row, repr(text))

    def test_a_first_word_that_is_none_of_the_sixteen(self):
        for row in ("give 0", "Given 0", "GIVEN 0", "0 given", "minus 0", "number 0", "line 0", "fold", "one",
                    "\tgiven 0", "given\t0", "given,0", "x"):
            self.bad(row)

    def test_an_empty_row(self):
        self.bad("")
        self.bad(" ")
        self.refused("", 0)
        self.refused("\n", 0)
        self.refused("given 0\n", 1)
        self.refused("given 0\n\ngiven 0", 1)
        self.refused("\ngiven 0", 0)

    def test_more_or_fewer_words(self):
        for line, row in ROWS:
            self.bad(row + " 0")
            self.bad(row + " ")
            self.bad(" " + row)
            self.bad(row.replace(" ", "  ", 1))
            self.bad(row.rsplit(" ", 1)[0])
            self.bad(line[0])

    def test_a_deed_that_the_line_has_not_got(self):
        for row in ("one add 0", "one most 0", "one 0 0", "one Half 0", "one halff 0", "one hal 0", "one - 0",
                    "both minus 0 0", "both none 0 0", "both half 0 0", "both adds 0 0", "both 1 0 0",
                    "fold less 0 0", "fold below 0 0", "fold alike 0 0", "fold minus 0 0", "fold fold 0 0",
                    "run less 0 0", "run below 0 0", "run alike 0 0", "run half 0 0", "run run 0 0", "one one 0",
                    "both both 0 0"):
            self.bad(row)

    # Ways in which a number is not written.
    NO_NUMBERS = ("", "-", "--1", "+1", "+0", "-0", "00", "01", "-01", "-00", "007", "1000000000000",
                  "-1000000000000", "0000000000000", "000000000000", "1_0", "0x1", "1.0", "1e3", "a", "1a", "a1",
                  "\u0661", "\u00b2", "\uff11", "1-", "1-1", "- 1", "1\r", "1\t", "\u22121", "None", "()", "True")

    def test_a_number_that_is_not_written_so(self):
        for bad in self.NO_NUMBERS:
            for row in (f"given {bad}", f"even 2,3 {bad}", f"turn {bad} 0", f"cut {bad} 0 0 1 1", f"cut 0 {bad} 0 1 1",
                        f"cut 0 0 {bad} 1 1", f"cut 0 0 0 {bad} 1", f"cut 0 0 0 1 {bad}", f"drop {bad} 0 0",
                        f"drop 0 {bad} 0", f"drop 0 0 {bad}", f"wide {bad} 0", f"wide 0 {bad}", f"spread {bad} 2",
                        f"shape {bad} 2", f"shift {bad} 0 0 0", f"shift 0 {bad} 0 0", f"shift 0 0 {bad} 0",
                        f"shift 0 0 0 {bad}", f"one half {bad}", f"both add {bad} 0", f"both add 0 {bad}",
                        f"where {bad} 0 0", f"where 0 {bad} 0", f"where 0 0 {bad}", f"fold add {bad} 0",
                        f"fold add 0 {bad}", f"run add {bad} 0", f"run add 0 {bad}", f"pick {bad} 0 0",
                        f"pick 0 {bad} 0", f"pick 0 0 {bad}", f"join {bad} 0 0", f"join 0 {bad} 0",
                        f"join 0 0 {bad}"):
                self.bad(row)

    def test_a_tuple_that_is_not_written_so(self):
        tuples = [word for word in self.NO_NUMBERS if word != "-"]
        tuples += [f"{word},2" for word in self.NO_NUMBERS] + [f"2,{word}" for word in self.NO_NUMBERS]
        tuples += [f"1,{word},2" for word in self.NO_NUMBERS]
        tuples += [",", "1,", ",1", "1,,2", "(1,2)", "1;2", "1, 2", "--", "-,-", "-,"]
        for word in tuples:
            for row in (f"even {word} 0", f"turn 0 {word}", f"spread 0 {word}", f"shape 0 {word}"):
                self.bad(row)

    def test_a_tuple_where_a_number_stands(self):
        for row in ("given 1,2", "even 2,3 1,2", "wide 0,1 0", "one half 1,2"):
            self.bad(row)

    def test_the_first_of_several_bad_rows(self):
        self.refused("given 0\ngive 0\nwide 0", 1)
        self.refused("given 0\ngiven 1\n\none add 0\nx", 2)
        self.refused("x\nx\nx", 0)

    def test_other_ends_of_rows(self):
        self.refused("given 0\r\ngiven 1", 0)
        self.refused("given 0\rgiven 1", 0)
        self.refused("given 0\x0bgiven 1", 0)
        self.refused("given 0\u2028given 1", 0)

    def test_taken_as_those_above_it_and_as_no_other(self):
        for taken in (NoText, LoomError, ValueError):
            with self.assertRaises(taken) as told:
                read_program("given 0\n")
            self.assertNotIsInstance(told.exception, (BadLine, NoCell, NoTable))
            self.assertEqual(told.exception.row, 1)


if __name__ == "__main__":
    unittest.main()
