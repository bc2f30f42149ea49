"""Point 13: beads taken out and put in, families strung together, bags mended."""

import random
import unittest
from itertools import combinations, permutations, product

from sharebags.errors import BadBags, BadBead, BadBeads, BadFamily, BadNumber, TooGreat
from sharebags.outs import hung_on, kept, mended, mending_number, put_into, strung, taken_out
from tests import naive
from tests.samples import LAST_STAR, PATH, STAR, WHOLE, random_family, size_of
from tests.wrong import FAMILIES, GREAT, INTEGERS, OTHER_KINDS

SMALL = [family for size in range(2, 6) for family in naive.families(size)]
BIG = [PATH, STAR, WHOLE, LAST_STAR, random_family(random.Random(1), 60)]
NEARLY_BIG = [
    PATH[:-1], STAR[:-1], (tuple(range(59)),), random_family(random.Random(2), 59), random_family(random.Random(3), 59),
]


def ordered(bags):
    return tuple(sorted(tuple(sorted(bag)) for bag in bags))


def joined_without(bags, bead):
    """The sets of beads that are left of bags, their names kept, if a bead is taken out."""
    holding = [bag for bag in bags if bead in bag]
    left = [bag for bag in bags if bead not in bag] + [set().union(*holding) - {bead}]
    return [bag for bag in left if len(bag) > 1]


def named_anew(bags):
    """Bags with their beads named 0, 1, .. in their order."""
    names = {bead: k for k, bead in enumerate(sorted(set().union(*bags)))}
    return ordered([names[bead] for bead in bag] for bag in bags)


class TakenOutTest(unittest.TestCase):
    def test_small_families(self):
        for family in SMALL:
            if size_of(family) > 2:
                for bead in range(size_of(family)):
                    found = taken_out(family, bead)
                    self.assertEqual(found, named_anew(joined_without(list(map(set, family)), bead)))
                    self.assertTrue(naive.is_family(found))

    def test_sixty_beads(self):
        self.assertEqual(taken_out(STAR, 0), (tuple(range(59)),))
        self.assertEqual(taken_out(STAR, 59), STAR[:-1])
        self.assertEqual(taken_out(STAR, 1), STAR[:-1])
        self.assertEqual([taken_out(PATH, bead) for bead in (0, 1, 30, 58, 59)], [PATH[:-1]] * 5)
        self.assertEqual(taken_out(WHOLE, 7), (tuple(range(59)),))

    def test_bags_of_one_bead_fall_away(self):
        self.assertEqual(taken_out(((0, 1), (1, 2)), 2), ((0, 1),))
        self.assertEqual(taken_out(((0, 1), (1, 2)), 0), ((0, 1),))
        self.assertEqual(taken_out(((0, 1), (1, 2)), 1), ((0, 1),))
        self.assertEqual(taken_out(((0, 1, 2),), 0), ((0, 1),))

    def test_no_bead_of_two(self):
        for value in OTHER_KINDS + INTEGERS + [(), (0,), (0, 1), ((0, 1),)]:
            with self.assertRaises(BadBead, msg=value):
                taken_out(((0, 1),), value)

    def test_wrong_beads(self):
        for family in (((0, 1, 2),), ((0, 1), (1, 2)), ((0, 2), (1, 2))):
            for value in OTHER_KINDS + [3, 4, 59, 60, -1, -2, -3, GREAT, -GREAT, (), (0,)]:
                with self.assertRaises(BadBead, msg=value):
                    taken_out(family, value)
        for family in BIG:
            with self.assertRaises(BadBead):
                taken_out(family, 60)


class KeptTest(unittest.TestCase):
    def test_small_families_in_any_order(self):
        for family in SMALL[::2]:
            beads = range(size_of(family))
            for many in range(2, len(beads) + 1):
                for some in combinations(beads, many):
                    found = kept(family, some)
                    for order in permutations([bead for bead in beads if bead not in some]):
                        bags = list(map(set, family))
                        for bead in order:
                            bags = joined_without(bags, bead)
                        self.assertEqual(found, named_anew(bags))

    def test_all_beads(self):
        for family in FAMILIES + BIG + SMALL:
            self.assertEqual(kept(family, tuple(range(size_of(family)))), family)

    def test_one_bead_less(self):
        for family in BIG + SMALL:
            beads = range(size_of(family))
            for bead in list(beads)[::13] if len(beads) > 2 else []:
                some = tuple(other for other in beads if other != bead)
                self.assertEqual(kept(family, some), taken_out(family, bead))

    def test_sixty_beads(self):
        for family in BIG:
            self.assertEqual(kept(family, (3, 57)), ((0, 1),))
        self.assertEqual(kept(STAR, (0, 4, 7, 9)), ((0, 1), (0, 2), (0, 3)))
        self.assertEqual(kept(STAR, (3, 4, 7, 9)), ((0, 1, 2, 3),))
        self.assertEqual(kept(PATH, (0, 20, 21, 59)), ((0, 1), (1, 2), (2, 3)))
        self.assertEqual(kept(WHOLE, (0, 20, 21, 59)), ((0, 1, 2, 3),))

    def test_wrong_beads(self):
        values = OTHER_KINDS + INTEGERS + [
            (), (0,), (2,), (3,), (0, 0), (1, 0), (0, 3), (0, 1, 2, 3), (0, 1, 1), (-1, 0), (0, 60), (0, GREAT), (-GREAT, 0),
            (0, True), (False, 1), (0, None), (0, "1"), ((0, 1),), ((0,), (1,)), ([0, 1],), (0, (1,)), (0, [1]), (2, 1, 0),
        ]
        for family in (((0, 1, 2),), ((0, 1), (1, 2)), ((0, 2), (1, 2))):
            for value in values:
                with self.assertRaises(BadBeads, msg=value):
                    kept(family, value)
        for value in [(0,), (1,), (0, 2), (0, 1, 2), ()]:
            with self.assertRaises(BadBeads):
                kept(((0, 1),), value)


class PutInTest(unittest.TestCase):
    def test_put_into(self):
        for family in SMALL + NEARLY_BIG:
            for index in range(len(family)):
                bags = [list(bag) for bag in family]
                bags[index].append(size_of(family))
                found = put_into(family, index)
                self.assertEqual(found, ordered(bags))
                self.assertEqual(taken_out(found, size_of(family)), family)
                self.assertEqual(size_of(found), size_of(family) + 1)

    def test_bags_stand_in_order_behind_it(self):
        self.assertEqual(put_into(((0, 1), (0, 2)), 0), ((0, 1, 3), (0, 2)))
        self.assertEqual(put_into(((0, 1), (0, 2)), 1), ((0, 1), (0, 2, 3)))

    def test_hung_on(self):
        for family in SMALL + NEARLY_BIG:
            for bead in range(size_of(family)):
                found = hung_on(family, bead)
                self.assertEqual(found, ordered([*family, (bead, size_of(family))]))
                self.assertEqual(taken_out(found, size_of(family)), family)
        self.assertEqual(hung_on(((0, 1), (1, 2)), 0), ((0, 1), (0, 3), (1, 2)))

    def test_sixty_and_sixty_one_beads(self):
        self.assertEqual(put_into(NEARLY_BIG[2], 0), WHOLE)
        self.assertEqual(hung_on(NEARLY_BIG[0], 58), PATH)
        self.assertEqual(hung_on(NEARLY_BIG[1], 0), STAR)
        for family in BIG:
            for call, last in ((put_into, len(family) - 1), (hung_on, 59)):
                for told in (0, last):
                    with self.assertRaises(TooGreat) as caught:
                        call(family, told)
                    self.assertEqual(caught.exception.most, 60)

    def test_too_great_comes_behind_wrong_numbers_and_beads(self):
        for family in BIG + NEARLY_BIG + SMALL[:9]:
            for value in OTHER_KINDS + [-1, -2, 60, 61, GREAT, -GREAT, (), (0,), (0, 1)]:
                with self.assertRaises(BadNumber, msg=value):
                    put_into(family, value)
                with self.assertRaises(BadBead, msg=value):
                    hung_on(family, value)
            with self.assertRaises(BadNumber):
                put_into(family, len(family))
            with self.assertRaises(BadBead):
                hung_on(family, size_of(family))


class StrungTest(unittest.TestCase):
    def check(self, one, other, first, second):
        size = size_of(one)
        others = [bead for bead in range(size_of(other)) if bead != second]
        names = {bead: size + k for k, bead in enumerate(others)}
        names[second] = first
        expected = ordered([*one, *[[names[bead] for bead in bag] for bag in other]])
        self.assertEqual(strung(one, other, first, second), expected)
        return expected

    def test_small_families(self):
        few = [family for size in range(2, 5) for family in naive.families(size)]
        for one, other in product(few[::3], few):
            for first, second in product(range(size_of(one)), range(size_of(other))):
                found = self.check(one, other, first, second)
                self.assertTrue(naive.is_family(found))
                self.assertEqual(size_of(found), size_of(one) + size_of(other) - 1)

    def test_which_bead_is_which(self):
        one, other = ((0, 1), (1, 2)), ((0, 1, 2), (2, 3))
        self.assertEqual(strung(one, other, 0, 2), ((0, 1), (0, 3, 4), (0, 5), (1, 2)))
        self.assertEqual(strung(other, one, 2, 0), ((0, 1, 2), (2, 3), (2, 4), (4, 5)))
        self.assertEqual(strung(((0, 1),), ((0, 1),), 1, 1), ((0, 1), (1, 2)))
        self.assertEqual(strung(((0, 1),), ((0, 1),), 0, 1), ((0, 1), (0, 2)))

    def test_sixty_and_sixty_one_beads(self):
        self.assertEqual(strung(PATH[:30], PATH[:29], 30, 0), PATH)
        self.assertEqual(strung(STAR[:-1], ((0, 1),), 0, 1), STAR)
        self.check(PATH[:30], STAR[:29], 17, 5)
        for family in NEARLY_BIG:
            self.check(family, ((0, 1),), 58, 0)
            self.check(((0, 1),), family, 1, 58)
        too_great = [(PATH[:30], PATH[:30]), (NEARLY_BIG[0], ((0, 1, 2),)), (((0, 1, 2),), NEARLY_BIG[1])]
        too_great += [(family, ((0, 1),)) for family in BIG] + [(((0, 1),), family) for family in BIG]
        too_great += [(one, other) for one, other in product(BIG, BIG)]
        for one, other in too_great:
            with self.assertRaises(TooGreat) as caught:
                strung(one, other, 0, 1)
            self.assertEqual(caught.exception.most, 60)

    def test_too_great_comes_behind_wrong_beads(self):
        for one, other in [(PATH, STAR), (WHOLE, ((0, 1),)), (((0, 1),), ((0, 1, 2),))]:
            for value in OTHER_KINDS + [-1, 60, 61, GREAT, -GREAT, (), (0,)]:
                for right in (0, None, 60, True):
                    with self.assertRaises(BadBead, msg=value):
                        strung(one, other, value, right)
                    with self.assertRaises(BadBead, msg=value):
                        strung(one, other, right, value)
            with self.assertRaises(BadBead):
                strung(one, other, size_of(one), 0)
            with self.assertRaises(BadBead):
                strung(one, other, 0, size_of(other))


class MendedTest(unittest.TestCase):
    def all_bags(self, size, most):
        """All bags of beads below size, most at most, one of them with the greatest bead."""
        for many in range(1, most + 1):
            for bags in combinations(naive.all_bags(size), many):
                if size_of(bags) == size:
                    yield bags

    def hang(self, bags):
        """Whether bags hold all beads and hang together."""
        joined = {0}
        for _ in bags:
            joined |= {bead for bag in bags if joined & set(bag) for bead in bag}
        return joined == set(range(size_of(bags)))

    def test_all_bags_of_few_beads(self):
        for size, most in [(2, 1), (3, 4), (4, 4), (5, 2)]:
            for bags in self.all_bags(size, most):
                if not self.hang(bags):
                    for call in (mended, mending_number):
                        with self.assertRaises(BadFamily, msg=bags):
                            call(bags)
                    continue
                holding = [
                    family for family in naive.families(size)
                    if all(any(set(bag) <= set(whole) for whole in family) for bag in bags)
                ]
                (finest,) = [family for family in holding if set(holding) <= naive.coarser(family)]
                self.assertEqual(mended(bags), finest)
                self.assertEqual(mending_number(bags), len(bags) - len(finest))

    def test_families_stay(self):
        for family in FAMILIES + BIG + SMALL:
            self.assertEqual((mended(family), mending_number(family)), (family, 0))

    def test_rings_and_bags_that_share_two_beads(self):
        # Two rings with a bag between them: each ring is a bag, and the bag between them stays.
        ring = ((0, 1), (0, 2), (1, 2), (2, 3), (3, 4), (3, 5), (4, 5))
        self.assertEqual((mended(ring), mending_number(ring)), (((0, 1, 2), (2, 3), (3, 4, 5)), 4))
        # Two rings that share a bead.
        ring = ((0, 1), (0, 2), (1, 2), (2, 3), (2, 4), (3, 4))
        self.assertEqual((mended(ring), mending_number(ring)), (((0, 1, 2), (2, 3, 4)), 4))
        twice = ((0, 1, 2), (1, 2, 3), (3, 4))
        self.assertEqual((mended(twice), mending_number(twice)), (((0, 1, 2, 3), (3, 4)), 1))
        within = ((0, 1), (0, 1, 2), (1, 2))
        self.assertEqual((mended(within), mending_number(within)), (((0, 1, 2),), 2))

    def test_sixty_beads(self):
        ring = ordered([*PATH, (0, 59)])
        self.assertEqual((mended(ring), mending_number(ring)), (WHOLE, 59))
        chord = ordered([*PATH, (10, 12), (40, 44)])
        expected = PATH[:10] + ((10, 11, 12),) + PATH[12:40] + ((40, 41, 42, 43, 44),) + PATH[44:]
        self.assertEqual((mended(chord), mending_number(chord)), (expected, 6))
        pairs = tuple(combinations(range(60), 2))
        self.assertEqual((mended(pairs), mending_number(pairs)), (WHOLE, 1769))
        fans = ordered([*[(0, k) for k in range(1, 60)], *[(k, k + 1) for k in range(1, 59, 2)]])
        expected = ordered([*[(0, k, k + 1) for k in range(1, 59, 2)], (0, 59)])
        self.assertEqual((mended(fans), mending_number(fans)), (expected, 88 - 30))

    def test_bags_that_miss_a_bead_or_do_not_hang_together(self):
        for bags in [((1, 2),), ((0, 2),), ((0, 1), (3, 4)), ((0, 1), (1, 3)), ((0, 1), (2, 3)), ((0, 59),), ((58, 59),),
                     ((0, 1), (0, 2), (3, 4)), ((0, 1, 2), (3, 4), (4, 5)), ((0, 3), (1, 2)),
                     tuple((k, k + 1) for k in range(0, 59, 2)), PATH[:30] + PATH[31:], PATH[1:]]:
            for call in (mended, mending_number):
                with self.assertRaises(BadFamily, msg=bags):
                    call(bags)

    def test_bags_not_in_order_are_no_bags(self):
        for bags in [((1, 2), (0, 1)), ((0, 1), (0, 1)), ((1, 0),), ((3, 4), (0, 1)), ((2, 1),), [(0, 1)]]:
            for call in (mended, mending_number):
                with self.assertRaises(BadBags, msg=bags):
                    call(bags)


if __name__ == "__main__":
    unittest.main()
