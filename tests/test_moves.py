"""Point 3: numbers of beads, degrees, sizes, pourings and partings."""

import unittest
from itertools import combinations

from sharebags.bags import beads, degrees, moves, one_bag, part, parted, pour, poured, pours, sizes
from sharebags.errors import BadNumber, BadPart, BadPour, TooMany
from tests import naive
from tests.samples import PATH, STAR, WHOLE, size_of
from tests.wrong import FAMILIES, GREAT, INTEGERS, OTHER_KINDS

SMALL = [family for size in range(2, 6) for family in naive.families(size)]


def with_sizes(*numbers):
    """A family whose bags have these numbers of beads, each with the last bead of the one before."""
    bags, first = [], 0
    for number in numbers:
        bags.append(tuple(range(first, first + number)))
        first += number - 1
    return tuple(bags)


def with_degrees(*numbers):
    """A family of pairs whose beads 0, 1, .. lie in these numbers of bags, as far as told."""
    bags, last = [], len(numbers) - 1
    for bead, number in enumerate(numbers):
        bags += [(bead, bead + 1)] if bead + 1 < len(numbers) else []
        free = number - (bead > 0) - (bead + 1 < len(numbers))
        bags += [(bead, last + k) for k in range(1, free + 1)]
        last += free
    return tuple(sorted(bags))


class NumbersTest(unittest.TestCase):
    def test_a_family(self):
        family = ((0, 4), (1, 2, 3, 4), (4, 5, 6))
        self.assertEqual(beads(family), 7)
        self.assertEqual(degrees(family), (1, 1, 1, 1, 3, 1, 1))
        self.assertEqual(sizes(family), (2, 3, 4))

    def test_small_families(self):
        for family in SMALL:
            size = size_of(family)
            self.assertEqual(beads(family), size)
            expected = tuple(len([bag for bag in family if bead in bag]) for bead in range(size))
            self.assertEqual(degrees(family), expected)
            self.assertEqual(sizes(family), tuple(sorted(map(len, family))))

    def test_two_beads(self):
        family = ((0, 1),)
        self.assertEqual((beads(family), degrees(family), sizes(family)), (2, (1, 1), (2,)))
        self.assertEqual((pours(family), poured(family), parted(family), moves(family)), ((), [], [], (0, 0)))

    def test_sixty_beads(self):
        self.assertEqual((beads(PATH), beads(STAR), beads(WHOLE)), (60, 60, 60))
        self.assertEqual(degrees(PATH), (1,) + (2,) * 58 + (1,))
        self.assertEqual(degrees(STAR), (59,) + (1,) * 59)
        self.assertEqual(degrees(WHOLE), (1,) * 60)
        self.assertEqual(sizes(PATH), (2,) * 59)
        self.assertEqual(sizes(WHOLE), (60,))

    def test_one_bag(self):
        self.assertEqual(one_bag(2), ((0, 1),))
        self.assertEqual(one_bag(3), ((0, 1, 2),))
        self.assertEqual(one_bag(60), WHOLE)
        for size in OTHER_KINDS + [(), (3,), -GREAT, -2, -1, 0, 1, 61, 62, GREAT]:
            with self.assertRaises(BadNumber, msg=size):
                one_bag(size)


class PourTest(unittest.TestCase):
    def test_pours_and_each_pour(self):
        for family in SMALL:
            sharing = [
                (i, j) for i, j in combinations(range(len(family)), 2) if set(family[i]) & set(family[j])
            ]
            self.assertEqual(pours(family), tuple(sharing))
            for i in range(len(family)):
                for j in range(len(family)):
                    if (min(i, j), max(i, j)) in sharing:
                        whole = tuple(sorted(set(family[i]) | set(family[j])))
                        expected = tuple(sorted(set(family) - {family[i], family[j]} | {whole}))
                        self.assertEqual(pour(family, i, j), expected)
                    else:
                        with self.assertRaises(BadPour):
                            pour(family, i, j)

    def test_poured(self):
        for family in SMALL:
            self.assertEqual(poured(family), list(naive.poured(family)))

    def test_sixty_beads(self):
        self.assertEqual(pours(WHOLE), ())
        self.assertEqual(pours(PATH), tuple((k, k + 1) for k in range(58)))
        self.assertEqual(pours(STAR), tuple(combinations(range(59), 2)))
        self.assertEqual(pour(PATH, 58, 57), PATH[:57] + ((57, 58, 59),))
        self.assertEqual(pour(STAR, 0, 58), ((0, 1, 59),) + STAR[1:58])
        self.assertEqual(poured(PATH), sorted(naive.poured(PATH)))
        self.assertEqual(len(poured(PATH)), 58)

    def test_values_that_are_no_indexes(self):
        family = ((0, 1), (1, 2), (2, 3))
        wrong = OTHER_KINDS + [(), (0,), (0, 1), -GREAT, -2, -1, 3, 4, 59, GREAT]
        for value in wrong:
            for one, other in [(value, 0), (0, value), (value, 1), (1, value), (value, value)]:
                with self.assertRaises(BadPour, msg=(one, other)):
                    pour(family, one, other)
        for one, other in [(0, 2), (2, 0), (0, 0), (1, 1), (2, 2)]:
            with self.assertRaises(BadPour):
                pour(family, one, other)

    def test_500_and_501_families(self):
        # 496 + 3 + 1 pairs of bags, and one more.
        family = with_degrees(32, 3, 2)
        self.assertEqual((degrees(family)[:3], moves(family)), ((32, 3, 2), (500, 0)))
        self.assertEqual(poured(family), sorted(naive.poured(family)))
        self.assertEqual(len(poured(family)), 500)
        for more in (with_degrees(32, 3, 2, 2), STAR):
            with self.assertRaises(TooMany) as caught:
                poured(more)
            self.assertEqual(caught.exception.most, 500)
        self.assertEqual(moves(with_degrees(32, 3, 2, 2)), (501, 0))


class PartTest(unittest.TestCase):
    def test_each_part(self):
        for family in SMALL:
            found = set()
            for index, bag in enumerate(family):
                for bead in bag:
                    others = [other for other in bag if other != bead]
                    for many in range(1, len(others)):
                        for side in combinations(others, many):
                            one = tuple(sorted({bead} | set(side)))
                            other = tuple(sorted(set(bag) - set(side)))
                            expected = tuple(sorted(set(family) - {bag} | {one, other}))
                            self.assertEqual(part(family, index, bead, side), expected)
                            found.add(expected)
            self.assertEqual(parted(family), sorted(found))

    def test_parted_is_the_way_back_of_poured(self):
        for family in SMALL:
            self.assertEqual(parted(family), list(naive.parted(family)))

    def test_moves(self):
        for family in SMALL:
            self.assertEqual(moves(family), (len(naive.poured(family)), len(naive.parted(family))))

    def test_sixty_beads(self):
        self.assertEqual(part(WHOLE, 0, 30, (0,)), ((0, 30), tuple(range(1, 60))))
        self.assertEqual(part(WHOLE, 0, 0, tuple(range(1, 59))), (tuple(range(59)), (0, 59)))
        self.assertEqual(moves(WHOLE), (0, 60 * (2 ** 58 - 1)))
        self.assertEqual(moves(PATH), (58, 0))
        self.assertEqual(moves(STAR), (59 * 58 // 2, 0))
        self.assertEqual((parted(PATH), parted(STAR)), ([], []))
        with self.assertRaises(TooMany) as caught:
            parted(WHOLE)
        self.assertEqual(caught.exception.most, 500)

    def test_500_and_501_families(self):
        # 3, 12, 35, 90 and 217 families behind a parting of a bag of 3, 4, 5, 6 and 7 beads.
        family = with_sizes(7, 7, 4, 4, 4, 4, 4, 3, 3)
        self.assertEqual(moves(family)[1], 500)
        found = parted(family)
        self.assertEqual((len(found), len(set(found))), (500, 500))
        self.assertEqual(found, sorted(found))
        self.assertTrue(all(family in poured(fine) for fine in found))
        more = with_sizes(7, 6, 6, 5, 4, 4, 4, 4, 4, 3, 3, 3)
        self.assertEqual(moves(more)[1], 501)
        for family in (more, with_sizes(8), with_sizes(40, 21)):
            with self.assertRaises(TooMany) as caught:
                parted(family)
            self.assertEqual(caught.exception.most, 500)

    def test_values_that_tell_no_index(self):
        family = ((0, 1, 2, 3), (3, 4, 5))
        for index in OTHER_KINDS + [(), (0,), -GREAT, -2, -1, 2, 3, 59, GREAT]:
            with self.assertRaises(BadPart, msg=index):
                part(family, index, 3, (0,))

    def test_values_that_are_no_bead_of_the_bag(self):
        family = ((0, 1, 2, 3), (3, 4, 5))
        for bead in OTHER_KINDS + [(), (0,), (0, 1), -GREAT, -1, 4, 5, 6, 59, 60, GREAT]:
            with self.assertRaises(BadPart, msg=bead):
                part(family, 0, bead, (2,))

    def test_values_that_are_no_side(self):
        family = ((0, 1, 2, 3), (3, 4, 5))
        wrong = OTHER_KINDS + INTEGERS + [
            (), (3,), (0, 3), (0, 1, 2), (0, 1, 2, 3), (4,), (0, 4), (1, 0), (2, 1), (0, 0), (1, 1), (-1,), (-1, 0),
            (60,), (GREAT,), (0, GREAT), (True,), (False,), (False, 1), (0, True), (None,), ("0",), ("0", "1"), ([0],),
            [0], [0, 1], ((0,),), ((0, 1),), (0, None), (0, (1,)), (0, [1]), ({},), "01", "0", {0: 1}, (0, 1, 1),
        ]
        for side in wrong:
            with self.assertRaises(BadPart, msg=side):
                part(family, 0, 3, side)

    def test_a_bag_of_two_cannot_be_parted(self):
        for side in [(), (0,), (1,), (0, 1), None]:
            for bead in (0, 1):
                with self.assertRaises(BadPart):
                    part(((0, 1),), 0, bead, side)


class FamiliesTest(unittest.TestCase):
    def test_what_comes_by_moves_are_families(self):
        for family in FAMILIES:
            for i, j in pours(family)[:40]:
                self.assertIsNone(naive.bar(pour(family, i, j)))


if __name__ == "__main__":
    unittest.main()
