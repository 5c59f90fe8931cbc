"""The refusals: where each class stands, and its fields."""

import unittest

from loomarrays.errors import BadLine, LoomError, NoCell, NoTable, NoText

MADE = {
    NoTable: lambda: NoTable("words"),
    NoCell: lambda: NoCell("words"),
    BadLine: lambda: BadLine(3, "sides"),
    NoText: lambda: NoText(5),
}


class WhereTheyStand(unittest.TestCase):
    def test_any_refusal_stands_under_value_error(self):
        self.assertEqual(LoomError.__bases__, (ValueError,))

    def test_each_refusal_stands_under_loom_error(self):
        for kind in MADE:
            self.assertEqual(kind.__bases__, (LoomError,), kind)

    def test_each_is_taken_as_itself_and_by_those_above(self):
        for kind, make in MADE.items():
            for taken in (kind, LoomError, ValueError):
                with self.assertRaises(taken):
                    raise make()

    def test_none_is_taken_by_another_refusal(self):
        for kind, make in MADE.items():
            for other in MADE:
                if other is not kind:
                    self.assertNotIsInstance(make(), other)

    def test_a_plain_refusal_is_none_of_the_others(self):
        for kind in MADE:
            self.assertNotIsInstance(LoomError("words"), kind)

    def test_words_may_be_left_out(self):
        for kind in (LoomError, NoTable, NoCell):
            self.assertIsInstance(kind(), kind)


class TheirFields(unittest.TestCase):
    def test_bad_line_tells_its_line_and_why(self):
        for at, why in ((0, "many"), (40, "many"), (7, "place"), (39, "number"), (1, "sides")):
            error = BadLine(at, why)
            self.assertEqual((error.at, error.why), (at, why))

    def test_no_text_tells_its_row(self):
        for row in (0, 1, 39, 1000):
            self.assertEqual(NoText(row).row, row)

    def test_each_object_has_its_own(self):
        first, second = BadLine(1, "place"), BadLine(2, "sides")
        self.assertEqual((first.at, first.why), (1, "place"))
        self.assertEqual((second.at, second.why), (2, "sides"))
        above, below = NoText(1), NoText(2)
        self.assertEqual((above.row, below.row), (1, 2))

    def test_fields_are_there_when_it_is_taken(self):
        with self.assertRaises(LoomError) as taken:
            raise BadLine(4, "number")
        self.assertEqual((taken.exception.at, taken.exception.why), (4, "number"))
        with self.assertRaises(LoomError) as taken:
            raise NoText(6)
        self.assertEqual(taken.exception.row, 6)


if __name__ == "__main__":
    unittest.main()
