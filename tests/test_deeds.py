"""Point 4: deeds with one number and with two, and folds of no number."""

import itertools
import unittest

from loomarrays.deeds import both_deed, folded_none, one_deed

ONE = ("minus", "half", "none")
BOTH = ("add", "less", "times", "least", "most", "below", "alike")
LAST = 1000002
NUMBERS = (0, 1, 2, 3, 7, 10, 999, 1000, 1001, 500000, 500001, 500002, 1000000, 1000001, LAST)


class DeedsWithOneNumber(unittest.TestCase):
    def check(self, deed, told):
        for number, wanted in told:
            self.assertEqual(one_deed(deed, number), wanted, (deed, number))

    def test_minus_is_nought_less_it(self):
        self.check("minus", ((0, 0), (1, LAST), (LAST, 1), (2, 1000001), (500001, 500002), (1000, 999003)))

    def test_half_is_rounded_down(self):
        self.check("half", ((0, 0), (1, 0), (2, 1), (3, 1), (LAST, 500001), (1000001, 500000), (77, 38)))

    def test_none_is_1_for_nought_alone(self):
        self.check("none", ((0, 1), (1, 0), (2, 0), (77, 0), (LAST, 0)))

    def test_answers_are_whole_numbers_within_bounds(self):
        for deed, number in itertools.product(ONE, NUMBERS):
            answer = one_deed(deed, number)
            self.assertIs(type(answer), int, (deed, number))
            self.assertTrue(0 <= answer <= LAST, (deed, number))

    def test_a_number_and_its_minus_add_to_nought(self):
        for number in NUMBERS:
            self.assertEqual(both_deed("add", number, one_deed("minus", number)), 0)


class DeedsWithTwoNumbers(unittest.TestCase):
    def check(self, deed, told):
        for one, other, wanted in told:
            self.assertEqual(both_deed(deed, one, other), wanted, (deed, one, other))

    def test_add(self):
        self.check("add", ((0, 0, 0), (0, 1, 1), (1, 0, 1), (1, 1, 2), (20, 22, 42), (500001, 500001, LAST),
                           (LAST, 0, LAST), (0, LAST, LAST), (LAST, 1, 0), (1, LAST, 0), (LAST, LAST, 1000001)))

    def test_less_is_the_first_less_the_second(self):
        self.check("less", ((0, 0, 0), (1, 0, 1), (0, 1, LAST), (1, 1, 0), (42, 20, 22), (20, 42, 999981),
                            (LAST, 0, LAST), (0, LAST, 1), (LAST, 1, 1000001), (1, LAST, 2), (LAST, LAST, 0)))

    def test_times(self):
        self.check("times", ((0, 0, 0), (0, 1, 0), (1, 0, 0), (1, 1, 1), (6, 7, 42), (1000, 1001, 997),
                             (LAST, 0, 0), (0, LAST, 0), (LAST, 1, LAST), (1, LAST, LAST), (LAST, LAST, 1)))

    def test_least(self):
        self.check("least", ((0, 0, 0), (0, 1, 0), (1, 0, 0), (5, 5, 5), (20, 42, 20), (42, 20, 20),
                             (LAST, 0, 0), (1, LAST, 1), (LAST, LAST, LAST)))

    def test_most(self):
        self.check("most", ((0, 0, 0), (0, 1, 1), (1, 0, 1), (5, 5, 5), (20, 42, 42), (42, 20, 42),
                            (LAST, 0, LAST), (1, LAST, LAST), (LAST, LAST, LAST)))

    def test_below_is_1_where_the_first_is_less(self):
        self.check("below", ((0, 0, 0), (0, 1, 1), (1, 0, 0), (5, 5, 0), (20, 42, 1), (42, 20, 0),
                             (LAST, 0, 0), (1, LAST, 1), (1000001, LAST, 1), (LAST, LAST, 0)))

    def test_alike_is_1_where_they_are_the_same(self):
        self.check("alike", ((0, 0, 1), (0, 1, 0), (1, 0, 0), (5, 5, 1), (20, 42, 0), (42, 20, 0),
                             (LAST, 0, 0), (0, LAST, 0), (1, LAST, 0), (LAST, LAST, 1)))

    def test_answers_are_whole_numbers_within_bounds(self):
        for deed, one, other in itertools.product(BOTH, NUMBERS, NUMBERS):
            answer = both_deed(deed, one, other)
            self.assertIs(type(answer), int, (deed, one, other))
            self.assertTrue(0 <= answer <= LAST, (deed, one, other))


class FoldsOfNoNumber(unittest.TestCase):
    def test_add_and_times(self):
        self.assertEqual(folded_none("add"), 0)
        self.assertEqual(folded_none("times"), 1)

    def test_whole_numbers(self):
        self.assertIs(type(folded_none("add")), int)
        self.assertIs(type(folded_none("times")), int)

    def test_a_fold_may_begin_with_it(self):
        for deed, number in itertools.product(("add", "times"), NUMBERS):
            self.assertEqual(both_deed(deed, folded_none(deed), number), number)


if __name__ == "__main__":
    unittest.main()
