"""Points 11 and 12: the classes of loops, and their fields."""

import itertools
import unittest

from loomarrays.loops import Fill, Fold, Load, Loop, Pick, Through
from loomarrays.trees import Even

TREE = Even(5)
MADE = (
    (Load, {"line": 3, "sides": (2, 3), "table": 1}),
    (Fill, {"line": 4, "sides": (), "tree": TREE}),
    (Fold, {"line": 5, "sides": (2,), "side": 1, "size": 3, "deed": "add", "tree": TREE}),
    (Through, {"line": 6, "sides": (2, 3), "side": 0, "deed": "most", "tree": TREE}),
    (Pick, {"line": 7, "sides": (2, 5), "side": 1, "source": 4, "places": 2, "source_sides": (2, 3)}),
)


class Loops(unittest.TestCase):
    def test_loop_has_a_line_and_sides(self):
        self.assertEqual(vars(Loop(2, (4, 5))), {"line": 2, "sides": (4, 5)})

    def test_each_is_under_loop(self):
        for kind, fields in MADE:
            self.assertTrue(issubclass(kind, Loop))
            self.assertIsInstance(kind(*fields.values()), Loop)

    def test_none_is_under_another(self):
        for (one, fields), (other, unused) in itertools.permutations(MADE, 2):
            self.assertNotIsInstance(one(*fields.values()), other)
        for kind, fields in MADE:
            self.assertFalse(issubclass(Loop, kind))

    def test_each_field_is_set_when_it_is_made(self):
        for kind, fields in MADE:
            self.assertEqual(vars(kind(*fields.values())), fields)

    def test_fields_may_be_told_by_their_names(self):
        for kind, fields in MADE:
            self.assertEqual(vars(kind(**fields)), fields)


if __name__ == "__main__":
    unittest.main()
