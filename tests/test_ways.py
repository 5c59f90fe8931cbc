"""Point 10, and of points 3 and 5 what a turn, a cut, a drop, a wide and a spread look at."""

import itertools
import unittest

from loomarrays.sides import place_at, strides_of
from loomarrays.ways import (index_by, reading_by, straight_way, way_dropped, way_moved, way_spread, way_turned,
                             way_widened)

# Ways to lines of none to five sides, with how many indexes their loops have.
WAYS = (
    (0, []),
    (2, []),
    (1, [(0, 0, 1)]),
    (0, [(4, -1, 0)]),
    (1, [(7, 0, -2)]),
    (2, [(0, 1, 1), (0, 0, 1)]),
    (1, [(3, -1, 0), (2, 0, 5)]),
    (2, [(1, 1, 3), (5, -1, 0), (9, 0, -1)]),
    (3, [(0, 2, 1), (0, 2, 2), (6, 0, 1)]),
    (4, [(0, 3, 1), (8, 1, -4), (2, -1, 0), (1, 0, 2)]),
    (4, [(-3, 0, 1), (0, 1, -1), (0, 2, 7), (-5, 3, 2)]),
    (3, [(0, -1, 0), (1, -1, 0), (2, -1, 0), (3, -1, 0)]),
    (4, [(1, 0, 1), (2, 1, 1), (3, 2, 1), (4, 3, 1), (5, -1, 0)]),
)


def loop_indexes(many):
    """Some indexes of a loop with so many sides."""
    return list(itertools.product((0, 1, 5), repeat=many))


def told(way, at):
    """The index by point 10's words."""
    return tuple(first if which == -1 else first + step * at[which] for first, which, step in way)


def without(row, side):
    return row[:side] + row[side + 1:]


class WaysAreRead(unittest.TestCase):
    def test_straight_each_index_stays(self):
        for many in range(6):
            way = straight_way(many)
            self.assertEqual(way, [(0, at, 1) for at in range(many)])
            self.assertIs(type(way), list)
            for at in itertools.product((0, 3, 63), repeat=many):
                self.assertEqual(index_by(way, at), at)

    def test_straight_is_new_each_time(self):
        way = straight_way(3)
        way[0] = (9, -1, 0)
        self.assertEqual(straight_way(3), [(0, 0, 1), (0, 1, 1), (0, 2, 1)])

    def test_first_and_step_times_the_index(self):
        self.assertEqual(index_by([(3, 0, 2)], (5,)), (13,))
        self.assertEqual(index_by([(3, 0, -2)], (1,)), (1,))
        self.assertEqual(index_by([(0, 1, 1), (0, 0, 1)], (4, 7)), (7, 4))
        self.assertEqual(index_by([(1, 2, 10), (2, 2, 1)], (4, 7, 3)), (31, 5))

    def test_first_alone(self):
        self.assertEqual(index_by([(6, -1, 0)], ()), (6,))
        self.assertEqual(index_by([(6, -1, 0)], (3, 4)), (6,))
        self.assertEqual(index_by([(6, -1, 0), (0, 1, 1)], (3, 4)), (6, 4))

    def test_no_parts(self):
        self.assertEqual(index_by([], ()), ())
        self.assertEqual(index_by([], (3, 4)), ())

    def test_all_ways_as_the_point_tells(self):
        for many, way in WAYS:
            kept = list(way)
            for at in loop_indexes(many):
                self.assertEqual(index_by(way, at), told(way, at))
                self.assertIs(type(index_by(way, at)), tuple)
            self.assertEqual(way, kept)


class WaysOfViews(unittest.TestCase):
    def check(self, make, seen):
        """That `make` of a way is a new list that leads where `seen` of the way's index tells."""
        for many, way in WAYS:
            for made, look in zip(make(way), seen(way)):
                kept = list(way)
                new = made(way)
                self.assertIs(type(new), list)
                self.assertTrue(all(type(part) is tuple and len(part) == 3 for part in new))
                self.assertEqual(way, kept)
                for at in loop_indexes(many):
                    self.assertEqual(index_by(new, at), look(told(way, at)), (way, new, at))
                new.append("changed")
                self.assertEqual(way, kept)

    def test_turn(self):
        def looks(way):
            for order in itertools.permutations(range(len(way))):
                # Side k of the turn is side order[k] of what it looks at.
                yield lambda at, order=order: tuple(at[order.index(side)] for side in range(len(order)))

        def makes(way):
            for order in itertools.permutations(range(len(way))):
                yield lambda way, order=order: way_turned(way, order)
        self.check(makes, looks)

    def test_a_turn_that_is_not_its_own_undoing(self):
        way = [(0, 0, 1), (0, 1, 1), (0, 2, 1)]
        # Side 0 of the turn is side 2 of the line, side 1 is side 0, side 2 is side 1.
        self.assertEqual(way_turned(way, (2, 0, 1)), [(0, 1, 1), (0, 2, 1), (0, 0, 1)])
        self.assertEqual(index_by(way_turned(way, (2, 0, 1)), (10, 20, 30)), (20, 30, 10))

    def test_begin_and_step_times_the_index(self):
        moves = list(itertools.product((-4, 0, 3), (-3, -1, 1, 2)))

        def looks(way):
            for side, (begin, step) in itertools.product(range(len(way)), moves):
                yield lambda at, side=side, begin=begin, step=step: (
                    at[:side] + (begin + step * at[side],) + at[side + 1:])

        def makes(way):
            for side, (begin, step) in itertools.product(range(len(way)), moves):
                yield lambda way, side=side, begin=begin, step=step: way_moved(way, side, begin, step)
        self.check(makes, looks)

    def test_a_moved_part(self):
        self.assertEqual(way_moved([(0, 0, 1), (0, 1, 1)], 1, 6, -2), [(0, 0, 1), (6, 1, -2)])
        self.assertEqual(way_moved([(3, 0, 2)], 0, 5, 4), [(17, 0, 8)])
        self.assertEqual(way_moved([(3, -1, 0)], 0, 5, 4), [(17, -1, 0)])
        self.assertEqual(way_moved([(3, 0, 2)], 0, 0, 1), [(3, 0, 2)])

    def test_what_hangs_on_no_index_says_so(self):
        self.assertEqual(way_moved([(3, 0, 2)], 0, 5, 0), [(5, -1, 0)])

    def test_drop(self):
        def looks(way):
            for side, place in itertools.product(range(len(way) + 1), (0, 1, 63)):
                yield lambda at, side=side, place=place: at[:side] + (place,) + at[side:]

        def makes(way):
            for side, place in itertools.product(range(len(way) + 1), (0, 1, 63)):
                yield lambda way, side=side, place=place: way_dropped(way, side, place)
        self.check(makes, looks)

    def test_a_dropped_side_hangs_on_no_index(self):
        self.assertEqual(way_dropped([(0, 0, 1)], 0, 4), [(4, -1, 0), (0, 0, 1)])
        self.assertEqual(way_dropped([(0, 0, 1)], 1, 4), [(0, 0, 1), (4, -1, 0)])
        self.assertEqual(way_dropped([], 0, 2), [(2, -1, 0)])

    def test_wide(self):
        def looks(way):
            for side in range(len(way)):
                yield lambda at, side=side: without(at, side)

        def makes(way):
            for side in range(len(way)):
                yield lambda way, side=side: way_widened(way, side)
        self.check(makes, looks)

    def test_spread(self):
        def owns(way):
            for many in range(len(way) + 1):
                yield from itertools.product((0, 1, 2), repeat=many)

        def looks(way):
            for own in owns(way):
                yield lambda at, own=own: tuple(
                    0 if side == 1 else number for side, number in zip(own, at[len(at) - len(own):]))

        def makes(way):
            for own in owns(way):
                yield lambda way, own=own: way_spread(way, own)
        self.check(makes, looks)

    def test_a_spread_side_of_1_hangs_on_no_index(self):
        way = [(0, 0, 1), (2, 1, 3)]
        self.assertEqual(way_spread(way, (5, 1)), [(0, 0, 1), (0, -1, 0)])
        self.assertEqual(way_spread(way, (1, 5)), [(0, -1, 0), (2, 1, 3)])
        self.assertEqual(way_spread(way, (1,)), [(0, -1, 0)])
        self.assertEqual(way_spread(way, (5,)), [(2, 1, 3)])
        self.assertEqual(way_spread(way, ()), [])
        self.assertEqual(way_spread([], ()), [])


class Readings(unittest.TestCase):
    def check(self, way, strides, many):
        kept = list(way)
        start, steps = reading_by(way, strides, many)
        self.assertEqual(way, kept)
        self.assertIs(type(start), int)
        self.assertIs(type(steps), tuple)
        self.assertEqual([type(step) for step in steps], [int] * many)
        for at in loop_indexes(many):
            place = sum(stride * number for stride, number in zip(strides, told(way, at)))
            self.assertEqual(start + sum(step * number for step, number in zip(steps, at)), place, (way, strides))

    def test_the_place_that_the_index_has_by_the_strides(self):
        for many, way in WAYS:
            for strides in itertools.product((-7, 0, 1, 12), repeat=len(way)):
                self.check(way, strides, many)

    def test_the_place_in_row_order(self):
        for many, way in WAYS:
            for sides in ((2, 3, 5, 7, 2), (1, 1, 1, 1, 1), (3, 0, 2, 0, 4), (64, 64, 64, 64, 64)):
                own = sides[:len(way)]
                start, steps = reading_by(way, strides_of(own), many)
                for at in loop_indexes(many):
                    place = start + sum(step * number for step, number in zip(steps, at))
                    self.assertEqual(place, place_at(own, told(way, at)))

    def test_told_ones(self):
        self.assertEqual(reading_by([], (), 0), (0, ()))
        self.assertEqual(reading_by([], (), 3), (0, (0, 0, 0)))
        self.assertEqual(reading_by([(0, 0, 1), (0, 1, 1)], (5, 1), 2), (0, (5, 1)))
        self.assertEqual(reading_by([(0, 1, 1), (0, 0, 1)], (5, 1), 2), (0, (1, 5)))
        self.assertEqual(reading_by([(2, -1, 0), (3, 0, -1)], (5, 1), 1), (13, (-1,)))
        self.assertEqual(reading_by([(2, -1, 0)], (5,), 3), (10, (0, 0, 0)))
        self.assertEqual(reading_by([(1, 0, 1)], (4,), 2), (4, (4, 0)))

    def test_parts_that_hang_on_the_same_index_are_put_together(self):
        self.assertEqual(reading_by([(1, 0, 2), (4, 0, 3)], (10, 1), 1), (14, (23,)))
        self.assertEqual(reading_by([(0, 1, 1), (0, 1, -1)], (1, 1), 2), (0, (0, 0)))


if __name__ == "__main__":
    unittest.main()
