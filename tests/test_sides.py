"""Points 2, 3 and, for the strides, 10: counts, places, indexes and where sides meet."""

import itertools
import unittest

from loomarrays.sides import cells_in, index_of, place_at, sides_met, strides_of


def rows_of_sides(numbers, longest):
    """All rows of sides up to a length, of these numbers."""
    for many in range(longest + 1):
        yield from itertools.product(numbers, repeat=many)


class CountsOfCells(unittest.TestCase):
    def test_no_side_is_one_cell(self):
        self.assertEqual(cells_in(()), 1)

    def test_a_side_of_0_leaves_no_cell(self):
        for sides in ((0,), (0, 5), (5, 0), (2, 0, 3), (64, 64, 0), (0, 0), (1, 2, 3, 0)):
            self.assertEqual(cells_in(sides), 0, sides)

    def test_sides_of_1_and_of_64(self):
        self.assertEqual(cells_in((1,)), 1)
        self.assertEqual(cells_in((1, 1, 1, 1)), 1)
        self.assertEqual(cells_in((64,)), 64)
        self.assertEqual(cells_in((64, 64)), 4096)
        self.assertEqual(cells_in((64, 1, 64, 1)), 4096)

    def test_one_to_four_sides(self):
        self.assertEqual(cells_in((7,)), 7)
        self.assertEqual(cells_in((2, 3)), 6)
        self.assertEqual(cells_in((2, 3, 5)), 30)
        self.assertEqual(cells_in((2, 3, 5, 7)), 210)

    def test_nothing_is_refused_beyond_the_bounds(self):
        self.assertEqual(cells_in((65, 64)), 4160)
        self.assertEqual(cells_in((2, 3, 2, 3, 2)), 72)


class Strides(unittest.TestCase):
    def test_no_side_has_no_stride(self):
        self.assertEqual(strides_of(()), ())

    def test_the_product_of_the_sides_behind(self):
        self.assertEqual(strides_of((7,)), (1,))
        self.assertEqual(strides_of((2, 3)), (3, 1))
        self.assertEqual(strides_of((2, 3, 5)), (15, 5, 1))
        self.assertEqual(strides_of((2, 3, 5, 7)), (105, 35, 7, 1))
        self.assertEqual(strides_of((64, 1, 64, 1)), (64, 64, 1, 1))

    def test_a_side_of_0_counts_like_any(self):
        self.assertEqual(strides_of((0,)), (1,))
        self.assertEqual(strides_of((0, 3)), (3, 1))
        self.assertEqual(strides_of((3, 0)), (0, 1))
        self.assertEqual(strides_of((2, 0, 3)), (0, 3, 1))
        self.assertEqual(strides_of((2, 3, 0, 5)), (0, 0, 5, 1))

    def test_nothing_is_refused_beyond_the_bounds(self):
        self.assertEqual(strides_of((100, 200)), (200, 1))
        self.assertEqual(strides_of((2, 3, 2, 3, 2)), (36, 12, 6, 2, 1))

    def test_a_tuple(self):
        for sides in ((), (4,), (2, 0), (2, 3, 5, 7)):
            self.assertIs(type(strides_of(sides)), tuple)


class PlacesAndIndexes(unittest.TestCase):
    def test_no_sides(self):
        self.assertEqual(place_at((), ()), 0)
        self.assertEqual(index_of((), 0), ())

    def test_first_middle_and_last(self):
        told = (
            ((7,), ((0, (0,)), (3, (3,)), (6, (6,)))),
            ((2, 3), ((0, (0, 0)), (2, (0, 2)), (3, (1, 0)), (5, (1, 2)))),
            ((2, 3, 5), ((0, (0, 0, 0)), (14, (0, 2, 4)), (15, (1, 0, 0)), (29, (1, 2, 4)))),
            ((2, 3, 5, 7), ((0, (0, 0, 0, 0)), (106, (1, 0, 0, 1)), (209, (1, 2, 4, 6)))),
            ((1, 1, 1, 1), ((0, (0, 0, 0, 0)),)),
            ((64, 64), ((0, (0, 0)), (2047, (31, 63)), (2048, (32, 0)), (4095, (63, 63)))),
            ((1, 64, 1), ((0, (0, 0, 0)), (30, (0, 30, 0)), (63, (0, 63, 0)))),
        )
        for sides, pairs in told:
            for place, at in pairs:
                self.assertEqual(place_at(sides, at), place, (sides, at))
                self.assertEqual(index_of(sides, place), at, (sides, place))

    def test_the_last_index_goes_fastest(self):
        for sides in rows_of_sides((0, 1, 2, 3), 4):
            in_order = list(itertools.product(*[range(side) for side in sides]))
            self.assertEqual([index_of(sides, place) for place in range(cells_in(sides))], in_order)
            self.assertEqual([place_at(sides, at) for at in in_order], list(range(cells_in(sides))))

    def test_the_index_is_a_tuple_with_a_number_for_each_side(self):
        for sides in ((), (1,), (4,), (2, 3), (1, 1, 1), (2, 3, 5, 7)):
            for place in (0, cells_in(sides) // 2, cells_in(sides) - 1):
                at = index_of(sides, place)
                self.assertIs(type(at), tuple)
                self.assertEqual([type(number) for number in at], [int] * len(sides))

    def test_nothing_is_refused_beyond_the_bounds(self):
        self.assertEqual(place_at((2, 2, 2, 2, 2), (1, 0, 1, 0, 1)), 21)
        self.assertEqual(index_of((2, 2, 2, 2, 2), 21), (1, 0, 1, 0, 1))
        self.assertEqual(place_at((100, 100), (99, 98)), 9998)
        self.assertEqual(index_of((100, 100), 9998), (99, 98))
        self.assertEqual(place_at((2, 0), (0, 0)), 0)
        self.assertEqual(index_of((2, 0), 0), (0, 0))


class SidesThatMeet(unittest.TestCase):
    def meets(self, one, other, met):
        self.assertEqual(sides_met(one, other), met, (one, other))
        self.assertEqual(sides_met(other, one), met, (other, one))

    def test_alike(self):
        for sides in ((), (0,), (1,), (64,), (2, 3), (2, 0, 3), (2, 3, 5, 7)):
            self.meets(sides, sides, sides)

    def test_1_beside_another(self):
        self.meets((1,), (5,), (5,))
        self.meets((1, 3), (2, 3), (2, 3))
        self.meets((2, 1), (2, 3), (2, 3))
        self.meets((1, 3), (2, 1), (2, 3))
        self.meets((1, 1, 1, 1), (2, 3, 5, 7), (2, 3, 5, 7))
        self.meets((2, 1, 5, 1), (1, 3, 1, 7), (2, 3, 5, 7))

    def test_0_beside_1_is_0(self):
        self.meets((0,), (1,), (0,))
        self.meets((2, 0), (1, 1), (2, 0))
        self.meets((0, 1), (1, 3), (0, 3))

    def test_0_beside_another_does_not_meet(self):
        self.meets((0,), (2,), None)
        self.meets((0,), (64,), None)
        self.meets((2, 0), (2, 3), None)
        self.meets((0, 3), (2, 3), None)

    def test_a_side_that_is_not_there_counts_as_1(self):
        self.meets((3,), (2, 3), (2, 3))
        self.meets((1,), (2, 3), (2, 3))
        self.meets((5, 1), (2, 3, 5, 7), (2, 3, 5, 7))
        self.meets((5, 1), (2, 3, 5, 1), (2, 3, 5, 1))
        self.meets((7,), (2, 3, 5, 1), (2, 3, 5, 7))
        self.meets((3,), (0, 3), (0, 3))
        self.meets((0,), (2, 1), (2, 0))

    def test_told_from_the_last_side_backwards(self):
        self.meets((2,), (2, 3), None)
        self.meets((2, 3), (2, 3, 5), None)
        self.meets((2,), (2, 1), (2, 2))

    def test_no_sides_meet_all(self):
        for sides in ((), (0,), (1,), (5,), (0, 3), (2, 3, 5, 7)):
            self.meets((), sides, sides)

    def test_unlike_numbers_do_not_meet(self):
        self.meets((2,), (3,), None)
        self.meets((2, 3), (2, 4), None)
        self.meets((2, 3), (4, 3), None)
        self.meets((2, 1), (3, 5), None)
        self.meets((63,), (64,), None)

    def test_all_small_sides_as_the_point_tells(self):
        small = list(rows_of_sides((0, 1, 2, 3), 3))
        for one, other in itertools.product(small, small):
            pairs = list(itertools.zip_longest(reversed(one), reversed(other), fillvalue=1))
            if all(len({left, right} - {1}) < 2 for left, right in pairs):
                wanted = tuple(max({left, right} - {1}, default=1) for left, right in reversed(pairs))
            else:
                wanted = None
            self.assertEqual(sides_met(one, other), wanted, (one, other))

    def test_a_tuple(self):
        for one, other in (((), ()), ((), (2, 3)), ((2, 3), (3,)), ((1, 3), (2, 1))):
            self.assertIs(type(sides_met(one, other)), tuple)

    def test_nothing_is_refused_beyond_the_bounds(self):
        self.meets((100,), (1, 1, 1, 1, 1), (1, 1, 1, 1, 100))
        self.meets((64, 64, 1), (64, 1, 64), (64, 64, 64))


if __name__ == "__main__":
    unittest.main()
