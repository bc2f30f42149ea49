"""Points 9 and 11: ways between bags, gates, and the numbers of families among those with the same degrees."""

import random
import unittest
from itertools import product
from math import comb, factorial

from sharebags.bagways import bag_far, bag_way, degree_family, degree_number, gate
from sharebags.errors import BadBead, BadNumber, BadSizes
from tests import naive
from tests.calls import check_error
from tests.samples import HALVES, LAST_STAR, PATH, STAR, WHOLE, random_family, size_of
from tests.wrong import FAMILIES, GREAT, INTEGERS, NO_BAGS, NO_FAMILIES, OTHER_KINDS

SMALL = [family for size in range(2, 6) for family in naive.families(size)]
RANDOM = [random_family(random.Random(seed), size) for seed in range(8) for size in (7, 10, 60)]
BIG = [PATH, STAR, LAST_STAR, WHOLE, HALVES]
FAMILY = ((0, 1), (1, 2, 3), (3, 4))


def degrees_of(family):
    """The numbers of bags that hold each bead."""
    return tuple(sum(bead in bag for bag in family) for bead in range(size_of(family)))


def all_bag_ways(family, one, other):
    """All ways index, bead, index, .. from one bag to another, nothing twice."""
    found, open_ways = [], [(one,)]
    for steps in open_ways:
        if steps[-1] == other:
            found.append(steps)
        for bead in family[steps[-1]]:
            if bead not in steps[1::2]:
                open_ways += [
                    steps + (bead, index) for index, bag in enumerate(family) if bead in bag and index not in steps[::2]
                ]
    return found


class BagWayTest(unittest.TestCase):
    def test_the_only_way(self):
        for family in SMALL + [family for family in RANDOM if size_of(family) < 60]:
            for one, other in product(range(len(family)), repeat=2):
                found = all_bag_ways(family, one, other)
                self.assertEqual(len(found), 1)
                self.assertEqual(bag_way(family, one, other), found[0])
                self.assertEqual(bag_far(family, one, other), len(found[0]) // 2)

    def test_from_a_bag_to_itself(self):
        for family in FAMILIES + RANDOM + BIG:
            for index in {0, len(family) // 2, len(family) - 1}:
                self.assertEqual(bag_way(family, index, index), (index,))
                self.assertEqual(bag_far(family, index, index), 0)

    def test_sixty_beads(self):
        expected = [0]
        for bead in range(1, 59):
            expected += [bead, bead]
        self.assertEqual(bag_way(PATH, 0, 58), tuple(expected))
        self.assertEqual(bag_way(PATH, 58, 0), tuple(expected[::-1]))
        self.assertEqual([bag_far(PATH, 0, 58), bag_far(PATH, 58, 0), bag_far(PATH, 7, 9)], [58, 58, 2])
        self.assertEqual([bag_way(STAR, 3, 58), bag_far(STAR, 58, 3)], [(3, 0, 58), 1])
        self.assertEqual([bag_way(LAST_STAR, 3, 58), bag_way(HALVES, 1, 0)], [(3, 59, 58), (1, 29, 0)])
        for family in [family for family in RANDOM if size_of(family) == 60]:
            for one, other in product((0, 5, len(family) - 1), repeat=2):
                self.assertEqual([bag_way(family, one, other)], all_bag_ways(family, one, other))

    def test_indexes_beyond(self):
        for family in FAMILIES:
            for index in (-1, len(family), len(family) + 1, 60, True, None, "0", (0,)):
                for function in (bag_way, bag_far):
                    check_error(self, BadNumber, function, family, index, 0)
                    check_error(self, BadNumber, function, family, 0, index)
                    check_error(self, BadNumber, function, family, index, index)


class GateTest(unittest.TestCase):
    def test_small_families(self):
        for family in SMALL + [family for family in RANDOM if size_of(family) < 60]:
            for bead in range(size_of(family)):
                far = naive.bead_distances(family, bead)
                for index, bag in enumerate(family):
                    nearest = [other for other in bag if far[other] == min(far[inner] for inner in bag)]
                    self.assertEqual([gate(family, index, bead)], nearest)

    def test_a_bead_of_the_bag_itself(self):
        for family in FAMILIES + RANDOM + BIG:
            for index in {0, len(family) // 2, len(family) - 1}:
                for bead in family[index]:
                    self.assertEqual(gate(family, index, bead), bead)

    def test_sixty_beads(self):
        self.assertEqual([gate(PATH, 30, 0), gate(PATH, 30, 59), gate(PATH, 58, 0)], [30, 31, 58])
        self.assertEqual([gate(STAR, 30, 59), gate(LAST_STAR, 0, 1), gate(HALVES, 1, 7)], [0, 59, 29])

    def test_the_index_comes_ahead_of_the_bead(self):
        for index, bead in product([-1, 3, True, None, GREAT], [-1, 5, False, None, (0,), 0, 4]):
            check_error(self, BadNumber, gate, FAMILY, index, bead)
        for bead in (-1, 5, 60, False, None, (0,), "0", GREAT):
            check_error(self, BadBead, gate, FAMILY, 1, bead)


class DegreesTest(unittest.TestCase):
    def test_small_families(self):
        for size in range(2, 7):
            kinds = {}
            for family in naive.families(size):
                kinds.setdefault(degrees_of(family), []).append(family)
            for told, found in kinds.items():
                ordered = sorted(found, key=naive.code_place)
                if size == 6 and len(ordered) % 3 == 1:
                    continue
                for index, family in enumerate(ordered):
                    self.assertEqual(degree_number(family), index)
                    self.assertEqual(degree_family(told, index), family)
                for index in (-1, len(ordered), len(ordered) + 1, GREAT):
                    check_error(self, BadNumber, degree_family, told, index)

    def test_degrees_that_no_family_has(self):
        for size in range(2, 5):
            met = set(map(degrees_of, naive.families(size)))
            for told in product(range(1, size + 2), repeat=size):
                if told not in met:
                    # The tuple stands ahead of the index.
                    for index in (0, -1, None, True, GREAT):
                        check_error(self, BadSizes, degree_family, told, index)

    def test_the_stems_in_their_order(self):
        told = (2, 1, 2, 1)
        expected = [((0, 1), (0, 2), (2, 3)), ((0, 2), (0, 3), (1, 2))]
        self.assertEqual([degree_family(told, index) for index in range(2)], expected)
        self.assertEqual([degree_number(family) for family in expected], [0, 1])

    def test_two_beads_and_sixty(self):
        self.assertEqual((degree_number(((0, 1),)), degree_family((1, 1), 0)), (0, ((0, 1),)))
        check_error(self, BadNumber, degree_family, (1, 1), 1)
        self.assertEqual((degree_number(WHOLE), degree_family((1,) * 60, 0)), (0, WHOLE))
        self.assertEqual((degree_number(STAR), degree_family((59,) + (1,) * 59, 0)), (0, STAR))
        self.assertEqual((degree_number(LAST_STAR), degree_family((1,) * 59 + (59,), 0)), (0, LAST_STAR))
        for told in ((1,) * 60, (59,) + (1,) * 59):
            check_error(self, BadNumber, degree_family, told, 1)
        # The stems of the path are 58, 57, .., 1: the last order of all.
        told = (1,) + (2,) * 58 + (1,)
        self.assertEqual(degree_number(PATH), factorial(58) - 1)
        self.assertEqual(degree_family(told, factorial(58) - 1), PATH)
        first = degree_family(told, 0)
        self.assertEqual(naive.code(first)[1], tuple(range(1, 59)))
        self.assertEqual((degrees_of(first), degree_number(first)), (told, 0))
        for index in (-1, factorial(58), factorial(58) + 1):
            check_error(self, BadNumber, degree_family, told, index)
        # Families of two bags at bead 29: those of the partitions of 59 beads into two parts.
        told = (1,) * 29 + (2,) + (1,) * 30
        self.assertEqual(degree_family(told, 2 ** 58 - 2), degree_family(told, degree_number(degree_family(told, 2 ** 58 - 2))))
        check_error(self, BadNumber, degree_family, told, 2 ** 58 - 1)
        self.assertEqual(degree_family(told, degree_number(HALVES)), HALVES)

    def test_many_stems_alike(self):
        # 60 beads, pairs alone, beads 0 and 59 in 30 bags each: the stems are 29 times 0 and 29 times 59.
        told = (30,) + (1,) * 58 + (30,)
        last = comb(58, 29) - 1
        self.assertEqual(naive.code(degree_family(told, 0))[1], (0,) * 29 + (59,) * 29)
        self.assertEqual(naive.code(degree_family(told, last))[1], (59,) * 29 + (0,) * 29)
        self.assertEqual(naive.code(degree_family(told, 1))[1], (0,) * 28 + (59, 0) + (59,) * 28)
        for index in (0, 1, last // 2, last - 1, last):
            self.assertEqual(degree_number(degree_family(told, index)), index)
        check_error(self, BadNumber, degree_family, told, last + 1)

    def test_there_and_back(self):
        for family in RANDOM + BIG:
            number = degree_number(family)
            self.assertEqual(degree_family(degrees_of(family), number), family)
            if number > 0:
                ahead = degree_family(degrees_of(family), number - 1)
                self.assertEqual((degrees_of(ahead), degree_number(ahead)), (degrees_of(family), number - 1))
                self.assertLess(naive.code_place(ahead), naive.code_place(family))

    def test_no_degrees(self):
        wrong = [
            (), (1,), (2,), (0, 1), (1, 0), (-1, 1), (1, 2), (2, 2), (2, 1), (60, 1), (1, GREAT), (GREAT, GREAT), (-GREAT, 1),
            (1,) * 61, (1,) * 62, (2,) + (1,) * 60, (2,) * 60, (60,) + (1,) * 59, (61,) + (1,) * 59, (2,) * 59 + (1,),
            (True, 1), (1, True), (1, False), (1, None), ("1", "1"), "11", [1, 1], ([1, 1],), ((1, 1),), ((1,), (1,)),
            (1, (1,)), (1, [1]), {1: 1}, (1, {}),
        ]
        for value in wrong + OTHER_KINDS + INTEGERS + NO_BAGS + NO_FAMILIES:
            for index in (0, None, -1):
                check_error(self, BadSizes, degree_family, value, index)


if __name__ == "__main__":
    unittest.main()
