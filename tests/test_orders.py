"""Points 4 and 5: coarser and finer families, distances and shortest ways."""

import unittest
from itertools import product

from sharebags.errors import OtherBeads
from sharebags.orders import distance, greatest_finer, is_coarser, least_coarser, rank, shows_way, way
from tests import naive
from tests.samples import HALVES, LAST_STAR, PATH, STAR, WHOLE, size_of
from tests.wrong import FAMILIES, INTEGERS, NO_BAGS, NO_FAMILIES, OTHER_KINDS

ODD_AND_EVEN = ((0, *range(1, 60, 2)), tuple(range(0, 60, 2)))
BIG = [PATH, STAR, LAST_STAR, WHOLE, HALVES, ODD_AND_EVEN]


def pairs_of_families(step):
    """All pairs of families of 2 to 4 beads, and of 5 beads those whose first one stands at every so many."""
    for size in range(2, 5):
        yield from product(naive.families(size), repeat=2)
    yield from product(naive.families(5)[::step], naive.families(5))


class OrderTest(unittest.TestCase):
    def test_is_coarser(self):
        for one, other in pairs_of_families(9):
            expected = all(any(set(bag) <= set(whole) for whole in one) for bag in other)
            self.assertIs(is_coarser(one, other), expected)
            self.assertEqual(expected, one in naive.coarser(other))

    def test_least_coarser(self):
        for one, other in pairs_of_families(20):
            self.assertEqual(least_coarser(one, other), naive.least_coarser(one, other), (one, other))

    def test_greatest_finer(self):
        for one, other in pairs_of_families(60):
            size = size_of(one)
            self.assertEqual(greatest_finer(one, other), naive.greatest_finer(one, other, size), (one, other))

    def test_none_is_finer_than_both(self):
        self.assertIsNone(greatest_finer(((0, 1), (1, 2)), ((0, 2), (1, 2))))
        # The only meeting, ((0, 1),), is a family, but one of two beads.
        self.assertIsNone(greatest_finer(((0, 1), (1, 2)), ((0, 1), (0, 2))))
        # No two bags meet in two beads.
        self.assertIsNone(greatest_finer(((0, 1), (1, 2), (2, 3)), ((0, 2), (0, 3), (1, 3))))
        # The meetings hold all beads but are apart.
        self.assertIsNone(greatest_finer(((0, 1), (1, 2), (2, 3)), ((0, 1), (0, 3), (2, 3))))
        self.assertIsNone(greatest_finer(PATH, STAR))

    def test_bags_in_a_ring_are_laid_together(self):
        one = ((0, 1), (0, 3), (1, 2))
        other = ((0, 1), (1, 2), (2, 3))
        self.assertEqual(least_coarser(one, other), ((0, 1, 2, 3),))
        one = ((0, 1), (1, 2), (2, 3), (3, 4))
        other = ((0, 1), (1, 2), (1, 3), (3, 4))
        self.assertEqual(least_coarser(one, other), ((0, 1), (1, 2, 3), (3, 4)))

    def test_bags_that_share_two_beads_are_laid_together(self):
        one = ((0, 1, 2), (2, 3), (3, 4))
        other = ((0, 1), (1, 2, 3), (3, 4))
        self.assertEqual(least_coarser(one, other), ((0, 1, 2, 3), (3, 4)))
        self.assertEqual(greatest_finer(one, other), ((0, 1), (1, 2), (2, 3), (3, 4)))

    def test_each_family_is_coarser_and_finer_than_itself(self):
        for family in FAMILIES + BIG:
            self.assertIs(is_coarser(family, family), True)
            self.assertEqual(least_coarser(family, family), family)
            self.assertEqual(greatest_finer(family, family), family)
            self.assertEqual(distance(family, family), 0)
            self.assertEqual(way(family, family), [family])
            self.assertIs(shows_way(family, family, [family]), True)
            self.assertIs(shows_way(family, family, []), False)
            self.assertIs(shows_way(family, family, [family, family]), False)

    def test_rank(self):
        for family in FAMILIES + list(naive.families(4)):
            self.assertEqual(rank(family), len(family) - 1)

    def test_sixty_beads(self):
        for family in BIG:
            self.assertIs(is_coarser(WHOLE, family), True)
            self.assertIs(is_coarser(family, WHOLE), family == WHOLE)
            self.assertEqual(least_coarser(WHOLE, family), WHOLE)
            self.assertEqual(least_coarser(family, WHOLE), WHOLE)
            self.assertEqual(greatest_finer(WHOLE, family), family)
            self.assertEqual(greatest_finer(family, WHOLE), family)
        self.assertEqual(least_coarser(PATH, STAR), WHOLE)
        self.assertEqual(least_coarser(STAR, LAST_STAR), WHOLE)
        self.assertEqual(least_coarser(PATH, HALVES), HALVES)
        self.assertEqual(greatest_finer(PATH, HALVES), PATH)
        self.assertEqual(least_coarser(HALVES, ODD_AND_EVEN), WHOLE)
        self.assertIs(is_coarser(HALVES, PATH), True)
        self.assertIs(is_coarser(ODD_AND_EVEN, PATH), False)
        crossed = PATH[:10] + ((10, 12), (11, 12)) + PATH[12:]
        self.assertEqual(least_coarser(PATH, crossed), PATH[:10] + ((10, 11, 12),) + PATH[12:])
        self.assertIsNone(greatest_finer(PATH, crossed))


class DistanceTest(unittest.TestCase):
    def test_distance_and_way(self):
        for one, other in pairs_of_families(30):
            fewest = naive.distances(one)[other]
            self.assertEqual(distance(one, other), fewest, (one, other))
            steps = way(one, other)
            self.assertTrue(naive.is_shortest_way(one, other, steps), steps)
            self.assertIs(shows_way(one, other, steps), True)

    def test_shows_way_among_all_lists_of_families_of_three_beads(self):
        families = naive.families(3)
        for many in range(5):
            for steps in product(families, repeat=many):
                for one, other in product(families, repeat=2):
                    expected = naive.is_shortest_way(one, other, steps)
                    self.assertIs(shows_way(one, other, list(steps)), expected)

    def test_shows_way_among_lists_of_three_families_of_four_beads(self):
        families = naive.families(4)
        for one in families[::4]:
            for middle, other in product(families, repeat=2):
                steps = [one, middle, other]
                self.assertIs(shows_way(one, other, steps), naive.is_shortest_way(one, other, steps))

    def test_shows_way_takes_ways_that_part_first(self):
        # Pourings and partings in bags that are apart may come in any order.
        one = ((0, 1, 2), (2, 3), (3, 4))
        other = ((0, 1), (1, 2), (2, 3, 4))
        pouring = ((0, 1, 2), (2, 3, 4))
        parting = ((0, 1), (1, 2), (2, 3), (3, 4))
        self.assertEqual(distance(one, other), 2)
        self.assertIs(shows_way(one, other, [one, pouring, other]), True)
        self.assertIs(shows_way(one, other, [one, parting, other]), True)
        self.assertIs(shows_way(other, one, [other, parting, one]), True)
        self.assertIs(shows_way(other, one, [one, parting, other]), False)

    def test_shows_way_of_other_values(self):
        one, other, whole = ((0, 1), (1, 2)), ((0, 2), (1, 2)), ((0, 1, 2),)
        good = [one, whole, other]
        wrong = NO_BAGS + NO_FAMILIES + FAMILIES + OTHER_KINDS + INTEGERS + [
            tuple(good), [good], [], [one], [one, other], [one, whole], [whole, other], [other, whole, one],
            [one, one, other], [one, whole, whole, other], [one, whole, one, whole, other], good + good,
            [one, None, other], [one, True, other], [one, 5, other], [one, "", other], [one, [], other], [one, (), other],
            [one, ((0, 1), (0, 2), (1, 2)), other], [one, list(whole), other], [one, ([0, 1, 2],), other],
            [one, ((0, True, 2),), other], [((0, True), (1, 2)), whole, other], [((False, 1), (1, 2)), whole, other],
            [one, whole, ((0, 2), (True, 2))], [list(one), whole, other], [one, whole, list(other)],
            [one, ((0, 1, 2, 3),), other], [one, ((0, 1, 2), (2, 3)), other], [None] * 3, [one] * 3, [whole] * 3,
            {0: one, 1: whole, 2: other}, "one whole other", [one, {0: 1}, other],
        ]
        self.assertIs(shows_way(one, other, good), True)
        for value in wrong:
            self.assertIs(shows_way(one, other, value), False, value)
        for value in NO_BAGS + NO_FAMILIES:
            self.assertIs(shows_way(one, one, [value]), False, value)
            self.assertIs(shows_way(one, other, [one, value, other]), False, value)

    def test_sixty_beads(self):
        for one, other in product(BIG, repeat=2):
            moves = distance(one, other)
            self.assertEqual(moves, len(one) + len(other) - 2 * len(least_coarser(one, other)))
            steps = way(one, other)
            self.assertEqual((len(steps), steps[0], steps[-1]), (moves + 1, one, other))
            for near, far in zip(steps, steps[1:]):
                self.assertTrue(near in naive.poured(far) or far in naive.poured(near))
            self.assertIs(shows_way(one, other, steps), True)
            self.assertIs(shows_way(one, other, steps[::-1]), one == other)
        self.assertEqual(distance(PATH, STAR), 116)
        self.assertEqual(distance(PATH, WHOLE), 58)
        self.assertEqual(distance(PATH, HALVES), 57)
        self.assertEqual(distance(HALVES, ODD_AND_EVEN), 2)


class OtherBeadsTest(unittest.TestCase):
    def test_families_with_other_numbers_of_beads(self):
        calls = [
            is_coarser, least_coarser, greatest_finer, distance, way,
            lambda one, other: shows_way(one, other, None), lambda one, other: shows_way(one, other, [one, other]),
        ]
        for one, other in product(FAMILIES, repeat=2):
            if max(map(max, one)) != max(map(max, other)):
                for call in calls:
                    with self.assertRaises(OtherBeads):
                        call(one, other)


if __name__ == "__main__":
    unittest.main()
