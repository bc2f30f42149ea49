"""Points 6 and 7: the numbers of the families coarser and finer than a family, and these by their numbers."""

import random
import unittest
from itertools import product

from sharebags.errors import BadBags, BadFamily, BadNumber, NotCoarser, OtherBeads
from sharebags.places import coarser_at, coarser_number, finer_at, finer_number, one_place
from tests import naive
from tests.calls import check_error
from tests.naive import bell
from tests.samples import HALVES, LAST_STAR, PATH, STAR, WHOLE, random_family, size_of
from tests.wrong import FAMILIES, GREAT, NO_BAGS, NO_FAMILIES

SMALL = [family for size in range(2, 6) for family in naive.families(size)]
RANDOM = [random_family(random.Random(seed), size) for seed in range(12) for size in (6, 9, 17, 59, 60)]
BIG = [PATH, STAR, LAST_STAR, WHOLE, HALVES]
FAMILY = ((0, 1), (1, 2, 3), (3, 4))


def coarser_place(family, coarse):
    """What coarser families are ordered by: for each bead the parts of its bags, by their places."""
    words = []
    for bead in range(size_of(family)):
        begun, word = [], []
        for bag in family:
            if bead in bag:
                whole = next(whole for whole in coarse if set(bag) <= set(whole))
                begun += [whole] if whole not in begun else []
                word.append(begun.index(whole))
        words.append(tuple(word))
    return tuple(words)


def finer_place(family, fine):
    """What finer families are ordered by: for each bag the number of its bags, then their number."""
    places = []
    for bag in family:
        names = {bead: name for name, bead in enumerate(bag)}
        inside = [other for other in fine if set(other) <= set(bag)]
        named = tuple(sorted(tuple(sorted(names[bead] for bead in other)) for other in inside))
        places.append((len(named), naive.code_place(named)))
    return tuple(places)


class OnePlaceTest(unittest.TestCase):
    def test_small_families(self):
        for family in SMALL:
            self.assertEqual(one_place(family), (len(naive.coarser(family)), len(naive.finer(family))))

    def test_sixty_beads(self):
        self.assertEqual(one_place(PATH), (2 ** 58, 1))
        self.assertEqual(one_place(STAR), (bell(59), 1))
        self.assertEqual(one_place(HALVES)[0], 2)
        many = sum(60 ** (k - 1) * naive.parted_in(59, k) for k in range(1, 60))
        self.assertEqual(one_place(WHOLE), (1, many))


class CoarserTest(unittest.TestCase):
    def test_small_families(self):
        for family in SMALL:
            ordered = sorted(naive.coarser(family), key=lambda coarse: coarser_place(family, coarse))
            for index, coarse in enumerate(ordered):
                self.assertEqual(coarser_at(family, index), coarse)
                self.assertEqual(coarser_number(family, coarse), index)
            for index in (-1, len(ordered), len(ordered) + 1, GREAT):
                check_error(self, BadNumber, coarser_at, family, index)

    def test_more_bags_at_a_bead(self):
        for family in (STAR[:6], tuple(sorted(STAR[:4] + ((1, 5), (1, 6), (1, 7)))), ((0, 4), (1, 4), (2, 4), (3, 4))):
            ordered = sorted(naive.coarser(family), key=lambda coarse: coarser_place(family, coarse))
            self.assertEqual([coarser_at(family, index) for index in range(len(ordered))], ordered)
            self.assertEqual([coarser_number(family, coarse) for coarse in ordered], list(range(len(ordered))))

    def test_the_order_of_partitions(self):
        family = ((0, 1), (0, 2), (0, 3))
        expected = [
            ((0, 1, 2, 3),), ((0, 1, 2), (0, 3)), ((0, 1, 3), (0, 2)), ((0, 1), (0, 2, 3)), ((0, 1), (0, 2), (0, 3)),
        ]
        self.assertEqual([coarser_at(family, index) for index in range(5)], expected)

    def test_the_first_bead_counts_most(self):
        family = ((0, 1), (0, 2), (2, 3))
        expected = [((0, 1, 2, 3),), ((0, 1, 2), (2, 3)), ((0, 1), (0, 2, 3)), family]
        self.assertEqual([coarser_at(family, index) for index in range(4)], expected)

    def test_the_first_and_the_last_one(self):
        for family in FAMILIES + RANDOM + BIG:
            whole = (tuple(range(size_of(family))),)
            last = one_place(family)[0] - 1
            self.assertEqual((coarser_at(family, 0), coarser_number(family, whole)), (whole, 0))
            self.assertEqual((coarser_at(family, last), coarser_number(family, family)), (family, last))
            for index in (-1, last + 1, last + 2):
                check_error(self, BadNumber, coarser_at, family, index)

    def test_sixty_beads(self):
        # Of the partitions of 59 bags the one ahead of the last one has the last two bags in one part.
        self.assertEqual(coarser_at(STAR, bell(59) - 2), STAR[:57] + ((0, 58, 59),))
        self.assertEqual(coarser_at(STAR, 1), (tuple(range(59)), (0, 59)))
        self.assertEqual(coarser_at(STAR, 2), ((*range(58), 59), (0, 58)))
        self.assertEqual(coarser_at(STAR, 3), (tuple(range(58)), (0, 58, 59)))
        self.assertEqual(coarser_at(STAR, 4), (tuple(range(58)), (0, 58), (0, 59)))
        # The first two bags are in one part in as many partitions as there are of one bag less.
        self.assertEqual(coarser_at(STAR, bell(58) - 1), ((0, 1, 2),) + STAR[2:])
        self.assertEqual(coarser_at(STAR, bell(58)), ((0, 1, *range(3, 60)), (0, 2)))
        self.assertEqual(coarser_number(STAR, ((0, 1, *range(3, 60)), (0, 2))), bell(58))
        self.assertEqual(coarser_at(PATH, 1), (tuple(range(59)), (58, 59)))
        self.assertEqual(coarser_at(PATH, 2 ** 57), ((0, 1), tuple(range(1, 60))))
        self.assertEqual(coarser_number(PATH, HALVES), 2 ** 29)
        self.assertEqual(coarser_at(HALVES, 1), HALVES)

    def test_there_and_back(self):
        source = random.Random(7)
        for family in RANDOM + [PATH, STAR, LAST_STAR]:
            many = one_place(family)[0]
            for index in [source.randrange(many) for _ in range(6)]:
                coarse = coarser_at(family, index)
                self.assertTrue(all(any(set(bag) <= set(whole) for whole in coarse) for bag in family))
                self.assertEqual(coarser_number(family, coarse), index)
                if index + 1 < many:
                    behind = coarser_at(family, index + 1)
                    self.assertLess(coarser_place(family, coarse), coarser_place(family, behind))


class FinerTest(unittest.TestCase):
    def test_small_families(self):
        for family in SMALL:
            ordered = sorted(naive.finer(family), key=lambda fine: finer_place(family, fine))
            for index, fine in enumerate(ordered):
                self.assertEqual(finer_at(family, index), fine)
                self.assertEqual(finer_number(family, fine), index)
            for index in (-1, len(ordered), len(ordered) + 1, GREAT):
                check_error(self, BadNumber, finer_at, family, index)

    def test_six_beads(self):
        for family in (((0, 1, 2, 3, 4, 5),), ((0, 2, 4), (1, 4), (3, 4, 5)), ((0, 3, 4, 5), (1, 2, 5))):
            ordered = sorted(naive.finer(family), key=lambda fine: finer_place(family, fine))
            self.assertEqual([finer_at(family, index) for index in range(len(ordered))], ordered)
            self.assertEqual([finer_number(family, fine) for fine in ordered], list(range(len(ordered))))

    def test_the_first_bag_counts_most(self):
        family = ((0, 1, 2), (2, 3, 4))
        expected = [
            family, ((0, 1, 2), (2, 3), (2, 4)), ((0, 1, 2), (2, 3), (3, 4)), ((0, 1, 2), (2, 4), (3, 4)),
            ((0, 1), (0, 2), (2, 3, 4)),
        ]
        self.assertEqual([finer_at(family, index) for index in range(5)], expected)

    def test_the_first_one_and_one_beyond_the_last(self):
        for family in FAMILIES + RANDOM + BIG:
            last = one_place(family)[1] - 1
            self.assertEqual((finer_at(family, 0), finer_number(family, family)), (family, 0))
            pairs = finer_at(family, last)
            self.assertEqual({len(bag) for bag in pairs}, {2})
            self.assertEqual(finer_number(family, pairs), last)
            for index in (-1, last + 1, last + 2):
                check_error(self, BadNumber, finer_at, family, index)

    def test_sixty_beads(self):
        last = one_place(WHOLE)[1] - 1
        # The last family of pairs has all stems 59.
        self.assertEqual((finer_at(WHOLE, last), finer_number(WHOLE, LAST_STAR)), (LAST_STAR, last))
        self.assertEqual(finer_number(WHOLE, STAR), last + 1 - 60 ** 58)
        self.assertEqual(finer_at(WHOLE, 1), (tuple(range(59)), (0, 59)))
        self.assertEqual(finer_at(WHOLE, 60), ((0, 59), tuple(range(1, 60))))
        self.assertEqual(finer_at(WHOLE, 61), ((*range(58), 59), (0, 58)))
        one, other = one_place((tuple(range(30)),))[1], one_place((tuple(range(31)),))[1]
        self.assertEqual(one_place(HALVES), (2, one * other))
        self.assertEqual(finer_number(HALVES, tuple((k, 29) for k in range(29)) + HALVES[1:]), (one - 1) * other)
        self.assertEqual(finer_at(HALVES, 1), (HALVES[0], tuple(range(29, 59)), (29, 59)))

    def test_there_and_back(self):
        source = random.Random(8)
        for family in RANDOM + [WHOLE, HALVES]:
            many = one_place(family)[1]
            for index in [source.randrange(many) for _ in range(4)]:
                fine = finer_at(family, index)
                self.assertTrue(all(any(set(bag) <= set(whole) for whole in family) for bag in fine))
                self.assertEqual(finer_number(family, fine), index)
                if index + 1 < many:
                    self.assertLess(finer_place(family, fine), finer_place(family, finer_at(family, index + 1)))


class OrderOfErrorsTest(unittest.TestCase):
    def test_other_beads(self):
        for one, other in product(FAMILIES, repeat=2):
            if size_of(one) != size_of(other):
                check_error(self, OtherBeads, coarser_number, one, other)
                check_error(self, OtherBeads, finer_number, one, other)

    def test_not_coarser_for_all_other_pairs(self):
        for size in range(2, 5):
            for one, other in product(naive.families(size), repeat=2):
                if other not in naive.coarser(one):
                    check_error(self, NotCoarser, coarser_number, one, other)
                if one not in naive.coarser(other):
                    check_error(self, NotCoarser, finer_number, one, other)

    def test_sixty_beads(self):
        for one, other in [(PATH, STAR), (STAR, PATH), (WHOLE, PATH), (WHOLE, HALVES), (HALVES, STAR)]:
            check_error(self, NotCoarser, coarser_number, one, other)
        for one, other in [(PATH, STAR), (STAR, PATH), (PATH, WHOLE), (HALVES, WHOLE), (STAR, HALVES)]:
            check_error(self, NotCoarser, finer_number, one, other)
        # They have other numbers of beads, and none is coarser.
        shorter = (tuple(range(59)),)
        for one, other in [(WHOLE, shorter), (shorter, WHOLE), (PATH, shorter), (shorter, STAR)]:
            check_error(self, OtherBeads, coarser_number, one, other)
            check_error(self, OtherBeads, finer_number, one, other)

    def test_the_errors_of_both_arguments_come_first(self):
        for function in (coarser_number, finer_number):
            for family in (WHOLE, FAMILY, ((0, 1),)):
                for value in NO_BAGS[::7]:
                    check_error(self, BadBags, function, family, value)
                    check_error(self, BadBags, function, value, family)
                for value in NO_FAMILIES:
                    check_error(self, BadFamily, function, family, value)
                    check_error(self, BadFamily, function, value, family)


if __name__ == "__main__":
    unittest.main()
