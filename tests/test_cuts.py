"""Point 12: groups without beads or bags, what cuts a family, and sets of beads that hang together."""

import random
import unittest
from itertools import combinations, product
from math import comb

from sharebags.cuts import connected_sets, cut_beads, fewest_cuts, hang_together, most_even
from sharebags.cuts import outer_bags, without_bag, without_bead, without_beads
from sharebags.errors import BadBead, BadBeads, BadNumber
from tests import naive
from tests.calls import check_error
from tests.samples import HALVES, LAST_STAR, PATH, STAR, WHOLE, random_family, size_of
from tests.wrong import FAMILIES, GREAT

SMALL = [family for size in range(2, 6) for family in naive.families(size)]
RANDOM = [random_family(random.Random(seed), size) for seed in range(6) for size in (7, 9, 60)]
FEW = SMALL + [family for family in RANDOM if size_of(family) < 60]
BIG = [PATH, STAR, LAST_STAR, WHOLE, HALVES]
FAMILY = ((0, 1), (1, 2, 3), (3, 4))


def subsets(beads):
    """All ascending tuples of some beads, the empty one left out."""
    return [some for many in range(1, len(beads) + 1) for some in combinations(beads, many)]


def groups_without(family, some):
    """The groups of the other beads when some are taken away from all bags."""
    left = [tuple(bead for bead in bag if bead not in some) for bag in family]
    return naive.groups(left, [bead for bead in range(size_of(family)) if bead not in some])


def holds_ways(family, some):
    """Whether all beads on the ways between beads of some are in some."""
    for one, other in combinations(some, 2):
        (steps,) = naive.all_ways(family, one, other)
        if not set(steps[::2]) <= set(some):
            return False
    return True


class GroupsTest(unittest.TestCase):
    def test_without_a_bead(self):
        for family in FEW + BIG:
            for bead in range(size_of(family)):
                if family in FEW or bead % 20 == 9 or bead in (0, 59):
                    self.assertEqual(without_bead(family, bead), groups_without(family, (bead,)))

    def test_without_beads(self):
        for family in FEW:
            for some in subsets(range(size_of(family)))[:: 1 if size_of(family) < 5 else 5]:
                self.assertEqual(without_beads(family, some), groups_without(family, some))

    def test_all_beads_and_all_but_one_taken_away(self):
        for family in FEW + FAMILIES + BIG:
            beads = tuple(range(size_of(family)))
            self.assertEqual(without_beads(family, beads), [])
            for bead in (0, beads[-1]):
                self.assertEqual(without_beads(family, tuple(k for k in beads if k != bead)), [(bead,)])

    def test_without_a_bag(self):
        for family in FEW + BIG:
            for index in range(len(family)):
                if family in FEW or index % 20 == 0:
                    others = family[:index] + family[index + 1:]
                    self.assertEqual(without_bag(family, index), naive.groups(others, range(size_of(family))))

    def test_two_beads(self):
        family = ((0, 1),)
        self.assertEqual([without_bead(family, 0), without_bead(family, 1)], [[(1,)], [(0,)]])
        self.assertEqual([without_beads(family, (0,)), without_beads(family, (0, 1))], [[(1,)], []])
        self.assertEqual(without_bag(family, 0), [(0,), (1,)])
        self.assertEqual([cut_beads(family), outer_bags(family), most_even(family)], [(), (0,), (1, 0)])
        self.assertEqual([connected_sets(family), fewest_cuts(family, 0, 1)], [3, ()])

    def test_sixty_beads(self):
        self.assertEqual(without_bead(PATH, 20), [tuple(range(20)), tuple(range(21, 60))])
        self.assertEqual(without_bead(STAR, 0), [(k,) for k in range(1, 60)])
        self.assertEqual(without_bead(STAR, 9), [(*range(9), *range(10, 60))])
        self.assertEqual(without_bead(WHOLE, 59), [tuple(range(59))])
        self.assertEqual(without_beads(PATH, tuple(range(0, 60, 2))), [(k,) for k in range(1, 60, 2)])
        self.assertEqual(without_beads(WHOLE, tuple(range(0, 60, 2))), [tuple(range(1, 60, 2))])
        self.assertEqual(without_bag(PATH, 20), [tuple(range(21)), tuple(range(21, 60))])
        self.assertEqual(without_bag(STAR, 8), [(*range(9), *range(10, 60)), (9,)])
        self.assertEqual(without_bag(WHOLE, 0), [(k,) for k in range(60)])
        self.assertEqual(without_bag(HALVES, 1), [tuple(range(30)), *[(k,) for k in range(30, 60)]])


class CutsTest(unittest.TestCase):
    def test_cut_beads_and_outer_bags(self):
        for family in FEW + RANDOM + BIG + FAMILIES:
            cuts = [bead for bead in range(size_of(family)) if sum(bead in bag for bag in family) >= 2]
            outer = [index for index, bag in enumerate(family) if len(set(bag) & set(cuts)) <= 1]
            self.assertEqual((cut_beads(family), outer_bags(family)), (tuple(cuts), tuple(outer)))

    def test_cut_beads_are_those_without_which_there_are_more_groups(self):
        for family in FEW:
            expected = tuple(k for k in range(size_of(family)) if len(groups_without(family, (k,))) > 1)
            self.assertEqual(cut_beads(family), expected)

    def test_sixty_beads(self):
        self.assertEqual([cut_beads(PATH), outer_bags(PATH)], [tuple(range(1, 59)), (0, 58)])
        self.assertEqual([cut_beads(STAR), outer_bags(STAR)], [(0,), tuple(range(59))])
        self.assertEqual([cut_beads(WHOLE), outer_bags(WHOLE)], [(), (0,)])
        self.assertEqual([cut_beads(HALVES), outer_bags(HALVES)], [(29,), (0, 1)])

    def test_fewest_cuts(self):
        for family in FEW:
            for one, other in product(range(size_of(family)), repeat=2):
                cuts = []
                for bead in range(size_of(family)):
                    if bead not in (one, other):
                        groups = groups_without(family, (bead,))
                        if not any(one in group and other in group for group in groups):
                            cuts.append(bead)
                self.assertEqual(fewest_cuts(family, one, other), tuple(cuts))

    def test_fewest_cuts_of_the_same_bead_or_in_one_bag(self):
        for family in FAMILIES + RANDOM + BIG:
            for bag in family[::20]:
                self.assertEqual(fewest_cuts(family, bag[0], bag[-1]), ())
                self.assertEqual(fewest_cuts(family, bag[-1], bag[0]), ())
                self.assertEqual(fewest_cuts(family, bag[0], bag[0]), ())

    def test_fewest_cuts_of_sixty_beads(self):
        self.assertEqual(fewest_cuts(PATH, 0, 59), tuple(range(1, 59)))
        self.assertEqual(fewest_cuts(PATH, 59, 0), tuple(range(1, 59)))
        self.assertEqual(fewest_cuts(STAR, 59, 7), (0,))
        self.assertEqual([fewest_cuts(WHOLE, 59, 7), fewest_cuts(HALVES, 59, 7)], [(), (29,)])

    def test_most_even(self):
        for family in FEW:
            greatest = [max(map(len, groups_without(family, (k,)))) for k in range(size_of(family))]
            self.assertEqual(most_even(family), (min(greatest), greatest.index(min(greatest))))
        for family in RANDOM:
            greatest = [max(map(len, without_bead(family, k))) for k in range(size_of(family))]
            self.assertEqual(most_even(family), (min(greatest), greatest.index(min(greatest))))

    def test_several_beads_as_even(self):
        self.assertEqual(most_even(((0, 1), (1, 2), (2, 3))), (2, 1))
        self.assertEqual(most_even(((0, 2), (1, 3), (2, 3))), (2, 2))
        self.assertEqual([most_even(PATH), most_even(STAR), most_even(WHOLE)], [(30, 29), (1, 0), (59, 0)])
        self.assertEqual([most_even(LAST_STAR), most_even(HALVES)], [(1, 59), (30, 29)])


class SetsTest(unittest.TestCase):
    def test_hang_together(self):
        for family in FEW:
            for some in subsets(range(size_of(family))):
                self.assertIs(hang_together(family, some), holds_ways(family, some))

    def test_some_of_sixty_beads(self):
        self.assertIs(hang_together(PATH, tuple(range(7, 30))), True)
        self.assertIs(hang_together(PATH, (7, 8, 9, 11, 12)), False)
        self.assertIs(hang_together(STAR, (7, 9)), False)
        self.assertIs(hang_together(STAR, (0, 7, 9)), True)
        self.assertIs(hang_together(WHOLE, (7, 9, 59)), True)
        for family in BIG + RANDOM:
            beads = tuple(range(size_of(family)))
            self.assertIs(hang_together(family, beads), True)
            self.assertTrue(all(hang_together(family, (bead,)) for bead in beads))

    def test_connected_sets(self):
        for family in FEW:
            found = [some for some in subsets(range(size_of(family))) if holds_ways(family, some)]
            self.assertEqual(connected_sets(family), len(found))

    def test_connected_sets_of_sixty_beads(self):
        self.assertEqual(connected_sets(PATH), 60 * 61 // 2)
        self.assertEqual([connected_sets(STAR), connected_sets(LAST_STAR)], [2 ** 59 + 59] * 2)
        self.assertEqual(connected_sets(WHOLE), 2 ** 60 - 1)
        self.assertEqual(connected_sets(HALVES), 2 ** 59 + 2 ** 29 - 1 + 2 ** 30 - 1)
        # Triples along a path: bags hold together by the beads 2, 4, ..
        triples = tuple((k, k + 1, k + 2) for k in range(0, 58, 2)) + ((58, 59),)
        # A set has one odd bead alone, or all even ones from one to another and any odd ones as far as beside these.
        found = 30
        for first, last in product(range(0, 60, 2), repeat=2):
            if first <= last:
                found += 2 ** len([k for k in range(1, 60, 2) if first - 1 <= k <= last + 1])
        self.assertEqual(connected_sets(triples), found)

    def test_connected_sets_by_many_stars(self):
        # One bag of 8 beads, at each of which hang 5 beads in pairs: any of those that are taken bring any of these.
        family = tuple(sorted([tuple(range(8))] + [(k, 8 + 5 * k + j) for k in range(8) for j in range(5)]))
        self.assertEqual(connected_sets(family), sum(comb(8, k) * 2 ** (5 * k) for k in range(1, 9)) + 40)


class OneBeyondTest(unittest.TestCase):
    def test_beads_and_bags_beyond(self):
        for family in FAMILIES:
            size = size_of(family)
            for value in (-1, size, size + 1, 60, GREAT, True, None, "0", (0,), [0]):
                check_error(self, BadBead, without_bead, family, value)
                check_error(self, BadBead, fewest_cuts, family, value, 0)
                check_error(self, BadBead, fewest_cuts, family, 0, value)
            for value in (-1, len(family), len(family) + 1, 60, GREAT, False, None, "0", (0,), [0]):
                check_error(self, BadNumber, without_bag, family, value)
            for value in ((), (size,), (0, size), (-1,), (-1, 0), (0, 0), (1, 0), [0], (True,), (0, None), 0, tuple(range(61))):
                check_error(self, BadBeads, without_beads, family, value)
                check_error(self, BadBeads, hang_together, family, value)


if __name__ == "__main__":
    unittest.main()
