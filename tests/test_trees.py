"""Point 12: the classes that trees are made of, and their fields."""

import itertools
import unittest

from loomarrays.trees import Both, Even, Joined, Node, One, Read, Where, Within

INNER, OTHER, THIRD = Even(1), Even(2), Read(3, 4, (5, 6))
MADE = (
    (Even, {"number": 7}),
    (Read, {"line": 2, "start": 40, "steps": (5, 0, -1)}),
    (One, {"deed": "half", "inner": INNER}),
    (Both, {"deed": "less", "left": INNER, "right": OTHER}),
    (Where, {"asked": THIRD, "left": INNER, "right": OTHER}),
    (Within, {"part": (-2, 0, 1), "size": 9, "inner": INNER, "number": 8}),
    (Joined, {"part": (0, 1, 1), "size": 9, "ahead": INNER, "behind": OTHER}),
)


class Nodes(unittest.TestCase):
    def test_each_is_under_node(self):
        for kind, fields in MADE:
            self.assertTrue(issubclass(kind, Node))
            self.assertIsInstance(kind(*fields.values()), Node)

    def test_none_is_under_another(self):
        for (one, fields), (other, unused) in itertools.permutations(MADE, 2):
            self.assertNotIsInstance(one(*fields.values()), other)

    def test_node_is_none_of_them(self):
        for kind, fields in MADE:
            self.assertFalse(issubclass(Node, kind))

    def test_each_field_is_set_when_it_is_made(self):
        for kind, fields in MADE:
            self.assertEqual(vars(kind(*fields.values())), fields)

    def test_fields_may_be_told_by_their_names(self):
        for kind, fields in MADE:
            self.assertEqual(vars(kind(**fields)), fields)

    def test_each_object_has_its_own(self):
        one, other = Even(3), Even(4)
        one.number = 9
        self.assertEqual(other.number, 4)
        first, second = Read(1, 2, (3,)), Read(4, 5, (6,))
        self.assertEqual((first.line, first.start, first.steps), (1, 2, (3,)))
        self.assertEqual((second.line, second.start, second.steps), (4, 5, (6,)))


if __name__ == "__main__":
    unittest.main()
