"""Point 2: bags, families, and what bars bags from being a family."""

import unittest
from itertools import combinations

from sharebags.bags import bar, beads, is_family
from sharebags.errors import BadBags, BadFamily
from tests import naive
from tests.samples import PATH, STAR
from tests.wrong import FAMILIES, NO_BAGS, NO_FAMILIES


class BarTest(unittest.TestCase):
    def check(self, bags):
        found = bar(bags)
        self.assertEqual(found, naive.bar(bags), bags)
        self.assertIs(is_family(bags), found is None)
        return found

    def test_all_bags_of_up_to_four_beads(self):
        bags = naive.all_bags(4)
        families = 0
        for many in range(1, len(bags) + 1):
            for some in combinations(bags, many):
                if self.check(some) is None:
                    self.assertTrue(naive.is_family(some), some)
                    families += 1
                else:
                    self.assertFalse(naive.is_family(some), some)
        self.assertEqual(families, 1 + 4 + 29)

    def test_up_to_three_bags_of_up_to_five_beads(self):
        bags = naive.all_bags(5)
        for many in range(1, 4):
            for some in combinations(bags, many):
                self.assertEqual(self.check(some) is None, naive.is_family(some), some)

    def test_all_pairs_of_five_beads(self):
        pairs = list(combinations(range(5), 2))
        for many in range(1, len(pairs) + 1):
            for some in combinations(pairs, many):
                self.assertEqual(self.check(some) is None, naive.is_family(some), some)

    def test_families(self):
        for family in FAMILIES:
            self.assertIsNone(bar(family))
            self.assertIs(is_family(family), True)

    def test_the_least_bead_in_no_bag(self):
        self.assertEqual(bar(((1, 2),)), ("bead", 0))
        self.assertEqual(bar(((0, 5), (2, 5))), ("bead", 1))
        self.assertEqual(bar(((0, 59),)), ("bead", 1))
        self.assertEqual(bar(PATH[:57] + ((57, 59),)), ("bead", 58))

    def test_two_bags_that_share_two_beads(self):
        self.assertEqual(bar(((0, 1), (0, 1, 2))), ("two", 0, 1))
        # The least j counts first: bags 1 and 2 come ahead of bags 0 and 3.
        self.assertEqual(bar(((0, 1, 4), (1, 2, 3), (1, 3, 5), (1, 4, 6))), ("two", 1, 2))
        # Then the least i.
        self.assertEqual(bar(((0, 1, 2), (0, 3, 4), (1, 2, 3, 4))), ("two", 0, 2))

    def test_bags_apart(self):
        self.assertEqual(bar(((0, 1), (2, 3))), ("apart", (0,)))
        self.assertEqual(bar(((0, 3), (1, 2), (3, 4))), ("apart", (0, 2)))
        # Bag 0 hangs together with bag 1 only by the later bag 3.
        self.assertEqual(bar(((0, 6), (1, 5), (2, 4), (3, 5, 6))), ("apart", (0, 1, 3)))

    def test_rings(self):
        self.assertEqual(bar(((0, 1), (0, 2), (1, 2))), ("ring", (0, 1, 2)))
        self.assertEqual(bar(((0, 1), (1, 2), (1, 3), (2, 3))), ("ring", (1, 2, 3)))
        # Two rings with a bag between them, which is left, and one beside them, which is not.
        bags = ((0, 1), (0, 2), (1, 2), (2, 3), (3, 4), (3, 5), (4, 5), (5, 6))
        self.assertEqual(bar(bags), ("ring", (0, 1, 2, 3, 4, 5, 6)))
        # A bag with beads of its own in a ring, and tails of several bags.
        bags = ((0, 1, 2), (0, 3, 4), (1, 3), (2, 5), (5, 6))
        self.assertEqual(bar(bags), ("ring", (0, 1, 2)))

    def test_the_order_when_several_hold(self):
        self.assertEqual(bar(((0, 1, 2), (0, 1, 4), (5, 6), (5, 7), (6, 7))), ("bead", 3))
        self.assertEqual(bar(((0, 1, 2), (0, 1, 3), (4, 5), (4, 6), (5, 6))), ("two", 0, 1))
        self.assertEqual(bar(((0, 1), (2, 3), (2, 4), (3, 4))), ("apart", (0,)))
        self.assertEqual(bar(((0, 1), (0, 2), (1, 2), (3, 4))), ("apart", (0, 1, 2)))
        self.assertEqual(bar(((1, 2), (4, 5))), ("bead", 0))
        self.assertEqual(bar(((0, 1), (0, 1, 2), (1, 2, 3))), ("two", 0, 1))

    def test_sixty_beads(self):
        self.assertIsNone(bar(PATH))
        self.assertIsNone(bar(STAR))
        self.assertIsNone(bar((tuple(range(60)),)))
        ring = tuple(sorted(PATH + ((0, 59),)))
        self.assertEqual(bar(ring), ("ring", tuple(range(60))))
        pairs = tuple(combinations(range(60), 2))
        self.assertEqual(bar(pairs), ("ring", tuple(range(len(pairs)))))
        self.assertEqual(bar(tuple((k, k + 1) for k in range(0, 59, 2))), ("apart", (0,)))
        self.assertEqual(bar(((0, 1), tuple(range(60)))), ("two", 0, 1))
        self.assertEqual(bar(PATH[:-1] + ((57, 58, 59),)), ("two", 57, 58))

    def test_what_is_not_bags(self):
        for value in NO_BAGS:
            self.assertIs(is_family(value), False, value)
            with self.assertRaises(BadBags, msg=value):
                bar(value)
            with self.assertRaises(BadBags, msg=value):
                beads(value)

    def test_bags_that_are_no_family(self):
        for value in NO_FAMILIES:
            self.assertIs(is_family(value), False, value)
            self.assertEqual(bar(value), naive.bar(value), value)
            with self.assertRaises(BadFamily, msg=value):
                beads(value)


if __name__ == "__main__":
    unittest.main()
