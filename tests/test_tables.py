"""Point 2: tables, their bounds and their cells; of point 1 what is handed in, kept and given back."""

import itertools
import unittest

from loomarrays.errors import BadLine, LoomError, NoCell, NoTable, NoText
from loomarrays.tables import Table

LAST = 1000002


class WhatATableHas(unittest.TestCase):
    def test_sides_and_cells(self):
        table = Table((2, 3), [1, 2, 3, 4, 5, 6])
        self.assertEqual(table.sides, (2, 3))
        self.assertEqual(table.cells, [1, 2, 3, 4, 5, 6])

    def test_sides_may_be_handed_in_as_a_list(self):
        for sides in ([], [3], [1, 3], [1, 3, 1], [3, 1, 1, 1], [0], [2, 0]):
            cells = [7] * (0 if 0 in sides else 3 if sides else 1)
            for handed in (sides, tuple(sides)):
                table = Table(handed, cells)
                self.assertIs(type(table.sides), tuple)
                self.assertIs(type(table.cells), list)
                self.assertEqual(table.sides, tuple(sides))
                self.assertEqual(table.cells, cells)

    def test_no_sides_are_one_cell(self):
        self.assertEqual(Table((), [5]).cells, [5])

    def test_a_side_of_0_has_no_cells(self):
        for sides in ((0,), (0, 5), (5, 0), (64, 64, 64, 0), (2, 0, 3)):
            self.assertEqual(Table(sides, []).cells, [])


class WhatIsHandedIn(unittest.TestCase):
    def test_a_later_change_is_not_seen(self):
        sides, cells = [2, 2], [1, 2, 3, 4]
        table = Table(sides, cells)
        sides[0] = 4
        sides.append(1)
        cells[3] = 9
        cells.append(5)
        self.assertEqual(table.sides, (2, 2))
        self.assertEqual(table.cells, [1, 2, 3, 4])
        self.assertEqual(table.cell((1, 1)), 4)

    def test_a_change_of_the_table_changes_nothing_handed_in(self):
        cells = [1, 2, 3, 4]
        one, other = Table([2, 2], cells), Table((4,), cells)
        one.cells[0] = 8
        one.cells.append(5)
        self.assertEqual(cells, [1, 2, 3, 4])
        self.assertEqual(other.cells, [1, 2, 3, 4])

    def test_a_refusal_changes_nothing_handed_in(self):
        sides, cells = [2, 2], [1, 2, 3]
        with self.assertRaises(NoTable):
            Table(sides, cells)
        self.assertEqual((sides, cells), ([2, 2], [1, 2, 3]))


class WhatIsRefused(unittest.TestCase):
    def refused(self, sides, cells):
        for handed in (tuple(sides), list(sides)):
            with self.assertRaises(NoTable, msg=sides):
                Table(handed, cells)

    def test_a_side_below_0(self):
        self.refused((-1,), [])
        self.refused((-1,), [1])
        self.refused((3, -1), [])
        self.refused((-1, 0), [])
        self.refused((-2, -3), [0] * 6)
        self.refused((-1, -1), [0])

    def test_a_side_of_0_and_of_64_are_let_by(self):
        self.assertEqual(Table((0,), []).sides, (0,))
        self.assertEqual(Table((64,), [0] * 64).sides, (64,))

    def test_a_side_of_65(self):
        self.refused((65,), [0] * 65)
        self.refused((1, 65), [0] * 65)
        self.refused((65, 0), [])
        self.refused((0, 1, 1, 65), [])

    def test_at_most_four_sides(self):
        for many in range(5):
            self.assertEqual(Table((1,) * many, [3]).sides, (1,) * many)
        self.refused((1, 1, 1, 1, 1), [3])
        self.refused((2, 1, 1, 1, 2), [3] * 4)
        self.refused((0, 1, 1, 1, 1), [])

    def test_at_most_4096_cells(self):
        for sides in ((64, 64), (64, 1, 64), (8, 8, 8, 8), (16, 16, 16), (2, 32, 64, 1)):
            self.assertEqual(len(Table(sides, [1] * 4096).cells), 4096)
        self.refused((64, 64, 2), [1] * 8192)
        self.refused((9, 8, 8, 8), [1] * 4608)
        # No sides within their bounds have from 4097 to 4099 cells.
        self.refused((41, 50, 2), [1] * 4100)
        self.refused((41, 50, 2, 1), [1] * 4096)

    def test_a_cell_out_of_its_bounds(self):
        self.assertEqual(Table((2,), [0, LAST]).cells, [0, LAST])
        for bad in (-1, LAST + 1, -LAST, 10 ** 12):
            self.refused((), [bad])
            for at in range(3):
                cells = [5, 5, 5]
                cells[at] = bad
                self.refused((3,), cells)

    def test_one_cell_too_many_or_too_few(self):
        for sides in ((), (1,), (5,), (2, 3), (2, 3, 5), (2, 1, 2, 1), (64, 64)):
            many = 1
            for side in sides:
                many *= side
            self.assertEqual(len(Table(sides, [4] * many).cells), many)
            self.refused(sides, [4] * (many + 1))
            self.refused(sides, [4] * (many - 1))
        self.refused((0,), [4])
        self.refused((3, 0), [4])
        self.refused((3, 0), [4] * 3)
        self.refused((), [])

    def test_the_refusal_is_taken_as_those_above_it_and_as_no_other(self):
        for taken in (NoTable, LoomError, ValueError):
            for sides, cells in (((65,), [0] * 65), ((2,), [1]), ((1,), [-1])):
                with self.assertRaises(taken) as told:
                    Table(sides, cells)
                self.assertIs(type(told.exception), NoTable)
                self.assertNotIsInstance(told.exception, (BadLine, NoCell, NoText))


class CellsAtAnIndex(unittest.TestCase):
    def test_the_last_index_goes_fastest(self):
        for many in range(5):
            for sides in itertools.product((0, 1, 2, 3), repeat=many):
                indexes = list(itertools.product(*[range(side) for side in sides]))
                table = Table(sides, [100 + place for place in range(len(indexes))])
                self.assertEqual([table.cell(at) for at in indexes], table.cells, sides)

    def test_first_and_last_of_a_full_table(self):
        table = Table((64, 64), list(range(4096)))
        self.assertEqual(table.cell((0, 0)), 0)
        self.assertEqual(table.cell((0, 63)), 63)
        self.assertEqual(table.cell((63, 0)), 4032)
        self.assertEqual(table.cell((63, 63)), 4095)

    def test_no_sides(self):
        self.assertEqual(Table((), [9]).cell(()), 9)

    def test_a_changed_cell_is_told(self):
        table = Table((2, 2), [1, 2, 3, 4])
        table.cells[2] = 8
        self.assertEqual(table.cell((1, 0)), 8)


if __name__ == "__main__":
    unittest.main()
