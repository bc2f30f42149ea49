"""The examples of the interface, word for word, and those of README.md."""

import unittest
from pathlib import Path

from tests.examples import check_examples, outcome

BAGS = """
>>> from sharebags.bags import bar, beads, degrees, is_family, moves, one_bag, part, parted, pour, poured, pours, sizes
>>> family = ((0, 1, 2), (2, 3))
>>> [beads(family), degrees(family), sizes(family), one_bag(3), pours(family), pour(family, 0, 1), part(family, 0, 2, (0,)), moves(family)]
[4, (1, 1, 2, 1), (2, 3), ((0, 1, 2),), ((0, 1),), ((0, 1, 2, 3),), ((0, 2), (1, 2), (2, 3)), (1, 3)]
>>> [poured(family), parted(family), is_family(((0, 1), (0, 2), (1, 2))), bar(((0, 1), (0, 2), (1, 2))), bar(((0, 1), (3, 4)))]
[[((0, 1, 2, 3),)], [((0, 1), (0, 2), (2, 3)), ((0, 1), (1, 2), (2, 3)), ((0, 2), (1, 2), (2, 3))], False, ('ring', (0, 1, 2)), ('bead', 2)]
>>> pour(family, 0, 0)
raises BadPour()
>>> beads(((0, 1), (0, 2), (1, 2)))
raises BadFamily()
"""

ORDERS = """
>>> from sharebags.orders import distance, greatest_finer, is_coarser, least_coarser, rank, shows_way, way
>>> one, other, whole = ((0, 1), (1, 2)), ((0, 2), (1, 2)), ((0, 1, 2),)
>>> [is_coarser(one, other), least_coarser(one, other), distance(one, other), greatest_finer(one, other), way(one, other), shows_way(one, other, [one, whole, other]), rank(one)]
[False, ((0, 1, 2),), 2, None, [((0, 1), (1, 2)), ((0, 1, 2),), ((0, 2), (1, 2))], True, 1]
>>> distance(((0, 1),), one)
raises OtherBeads()
"""


class ExamplesTest(unittest.TestCase):
    def test_bags(self):
        check_examples(self, BAGS)

    def test_orders(self):
        check_examples(self, ORDERS)

    def test_readme(self):
        check_examples(self, (Path(__file__).parent.parent / "README.md").read_text(encoding="utf-8"))

    def test_the_runner_tells_values_errors_and_statements(self):
        names = {}
        self.assertIsNone(outcome("from sharebags.errors import TooMany", names))
        self.assertEqual(outcome("(1, 2)", names), "(1, 2)")
        self.assertEqual(outcome("[].index(1)", names), "raises ValueError()")
        self.assertIsNone(outcome("def fail(): raise TooMany(500)", names))
        self.assertEqual(outcome("fail()", names), "raises TooMany(most=500)")


if __name__ == "__main__":
    unittest.main()
