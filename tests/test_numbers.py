"""Point 8: numbers of families with told beads, bags, sizes and degrees, means and shares of them."""

import unittest
from collections import Counter
from fractions import Fraction
from functools import lru_cache
from itertools import product
from math import comb, factorial, gcd, prod

from sharebags.errors import BadNumber, BadSizes
from sharebags.numbers import count_with_bags, count_with_degrees, count_with_sizes, degree_share
from sharebags.numbers import mean_bags, mean_degree, outer_mean, together_share
from tests import naive
from tests.calls import check_error
from tests.naive import parted_in
from tests.wrong import GREAT, INTEGERS, NO_BAGS, NO_FAMILIES, OTHER_KINDS

SIZES = range(2, 7)


def degrees_of(family):
    """The numbers of bags that hold each bead."""
    return tuple(sum(bead in bag for bag in family) for bead in range(max(map(max, family)) + 1))


def families_with(size, bags):
    return [family for family in naive.families(size) if len(family) == bags]


def share(part, whole):
    """The ratio of two numbers as the document has it."""
    found = Fraction(part, whole)
    return (found.numerator, found.denominator)


def sizes_of(things, least=1):
    """All ascending tuples of numbers from least on with a sum."""
    if things == 0:
        return [()]
    return [(k, *rest) for k in range(least, things + 1) for rest in sizes_of(things - k, k)]


@lru_cache(maxsize=None)
def stirling(things, parts):
    """The number of partitions into so many parts, by the part of the last thing."""
    if things == 0 or parts == 0:
        return int(things == parts)
    return stirling(things - 1, parts - 1) + parts * stirling(things - 1, parts)


class RatioTest(unittest.TestCase):
    def check_ratio(self, value):
        self.assertIs(type(value), tuple)
        self.assertEqual([type(part) for part in value], [int, int])
        self.assertGreater(value[1], 0)
        self.assertEqual(gcd(*value), 1)

    def test_lowest_terms(self):
        for size in (2, 3, 4, 5, 6, 10, 36, 200):
            self.check_ratio(mean_bags(size))
            self.check_ratio(together_share(size))
            for bags in {1, 2, size // 2, size - 1} & set(range(1, size)):
                self.check_ratio(mean_degree(size, bags))
                self.check_ratio(outer_mean(size, bags))
                for degree in (1, 2, 3, size // 2, 200):
                    if degree > 0:
                        self.check_ratio(degree_share(size, bags, degree))

    def test_nothing_is_0_of_1(self):
        for size, bags, degree in [(2, 1, 2), (2, 1, 200), (4, 2, 3), (6, 5, 6), (200, 199, 200), (200, 1, 2), (7, 1, 7)]:
            self.assertEqual(degree_share(size, bags, degree), (0, 1))


class CountWithBagsTest(unittest.TestCase):
    def test_few_beads(self):
        for size in SIZES:
            for bags in range(1, size):
                self.assertEqual(count_with_bags(size, bags), len(families_with(size, bags)))

    def test_many_beads(self):
        for size in (7, 12, 60, 199, 200):
            for bags in {1, 2, 3, size // 2, size - 2, size - 1}:
                self.assertEqual(count_with_bags(size, bags), size ** (bags - 1) * parted_in(size - 1, bags))
        self.assertEqual([count_with_bags(200, 1), count_with_bags(200, 199)], [1, 200 ** 198])

    def test_one_beyond(self):
        for size in (2, 3, 60, 200):
            for bags in (0, size, size + 1, -1):
                for function in (count_with_bags, mean_degree, outer_mean):
                    check_error(self, BadNumber, function, size, bags)
                check_error(self, BadNumber, degree_share, size, bags, 1)
        for function in (count_with_bags, mean_degree, outer_mean):
            for size in (1, 0, 201):
                check_error(self, BadNumber, function, size, 1)


class MeansTest(unittest.TestCase):
    def test_mean_bags(self):
        for size in SIZES:
            found = naive.families(size)
            self.assertEqual(mean_bags(size), share(sum(map(len, found)), len(found)))
        row = [200 ** (bags - 1) * stirling(199, bags) for bags in range(1, 200)]
        self.assertEqual(mean_bags(200), share(sum(k * many for k, many in enumerate(row, start=1)), sum(row)))
        self.assertEqual(mean_bags(2), (1, 1))

    def test_means_of_beads(self):
        for size in SIZES:
            for bags in range(1, size):
                rows = [degrees_of(family) for family in families_with(size, bags)]
                self.assertEqual(mean_degree(size, bags), share(sum(map(sum, rows)), size * len(rows)))
                self.assertEqual(outer_mean(size, bags), share(sum(row.count(1) for row in rows), len(rows)))
                for degree in range(1, size + 2):
                    expected = share(len([row for row in rows if row[0] == degree]), len(rows))
                    self.assertEqual(degree_share(size, bags, degree), expected)

    def test_two_hundred_beads(self):
        self.assertEqual([mean_degree(200, 1), mean_degree(200, 199)], [(1, 1), (199, 100)])
        self.assertEqual([outer_mean(200, 1), outer_mean(200, 2)], [(200, 1), (199, 1)])
        self.assertEqual(outer_mean(200, 199), share(200 * 199 ** 198, 200 ** 198))
        self.assertEqual([outer_mean(2, 1), mean_degree(2, 1)], [(2, 1), (1, 1)])
        self.assertEqual(degree_share(200, 199, 199), (1, 200 ** 198))
        self.assertEqual(degree_share(200, 199, 1), share(199 ** 198, 200 ** 198))
        self.assertEqual(degree_share(200, 1, 1), (1, 1))
        self.assertEqual(degree_share(200, 3, 2), share(2 * 199, 200 ** 2))

    def test_shares_of_degrees_make_a_whole_and_the_means(self):
        for size, bags in [(9, 8), (12, 5), (60, 59), (60, 3), (200, 1), (200, 70), (200, 199)]:
            shares = {degree: Fraction(*degree_share(size, bags, degree)) for degree in range(1, 201)}
            self.assertEqual(sum(shares.values()), 1)
            self.assertEqual(sum(k * part for k, part in shares.items()), Fraction(*mean_degree(size, bags)))
            self.assertEqual(size * shares[1], Fraction(*outer_mean(size, bags)))

    def test_degrees_beyond(self):
        for size, bags in [(2, 1), (60, 30), (200, 199)]:
            for value in OTHER_KINDS + [(), (1,), -GREAT, -1, 0, 201, 202, GREAT]:
                check_error(self, BadNumber, degree_share, size, bags, value)


class TogetherTest(unittest.TestCase):
    def test_few_beads(self):
        for size in SIZES:
            found = naive.families(size)
            sharing = [family for family in found if any(bag[:2] == (0, 1) for bag in family)]
            self.assertEqual(together_share(size), share(len(sharing), len(found)))
        self.assertEqual(together_share(2), (1, 1))

    def test_by_the_part_of_bead_1(self):
        # With s own beads in the bag of bead 1 and bead 0 for its stem, these all are one bead for the other bags.
        for size in (7, 20, 59, 150, 200):
            sharing = 1
            for own in range(1, size - 1):
                for bags in range(2, size - own + 1):
                    rest = stirling(size - 1 - own, bags - 1)
                    sharing += comb(size - 2, own - 1) * rest * (own + 1) * size ** (bags - 2)
            whole = sum(size ** (bags - 1) * stirling(size - 1, bags) for bags in range(1, size))
            self.assertEqual(together_share(size), share(sharing, whole))


class CountWithSizesTest(unittest.TestCase):
    def test_few_beads(self):
        for size in SIZES:
            found = Counter(tuple(sorted(map(len, family))) for family in naive.families(size))
            for own in sizes_of(size - 1):
                told = tuple(many + 1 for many in own)
                self.assertEqual(count_with_sizes(told), found[told])
            self.assertEqual(len(found), len(sizes_of(size - 1)))

    def test_any_order(self):
        self.assertEqual({count_with_sizes(told) for told in [(2, 3, 4), (4, 3, 2), (3, 2, 4), (3, 4, 2)]}, {60 * 49})
        self.assertEqual(count_with_sizes((3, 2, 3, 2)), count_with_sizes((2, 2, 3, 3)))

    def test_together_they_are_all_families(self):
        for size in (8, 11, 14):
            many = sum(count_with_sizes(tuple(k + 1 for k in own)) for own in sizes_of(size - 1))
            self.assertEqual(many, sum(count_with_bags(size, bags) for bags in range(1, size)))

    def test_many_beads(self):
        self.assertEqual([count_with_sizes((2,)), count_with_sizes((200,)), count_with_sizes((199, 2))], [1, 1, 199 * 200])
        self.assertEqual(count_with_sizes((2,) * 199), 200 ** 198)
        self.assertEqual(count_with_sizes((101, 100)), comb(199, 99) * 200)
        self.assertEqual(count_with_sizes((100, 101)), comb(199, 99) * 200)
        self.assertEqual(count_with_sizes((100, 100)), comb(198, 99) // 2 * 199)
        self.assertEqual(count_with_sizes((3,) * 99), prod(range(1, 198, 2)) * 199 ** 98)

    def test_no_sizes(self):
        wrong = [
            (), (1,), (0,), (-1,), (1, 3), (3, 1), (2, -1, 5), (201,), (2, 201), (200, 2), (2, 200), (101, 101),
            (100, 102), (2,) * 200, (3,) * 100, (2,) * 201, (3, 2) * 67, (200, 200), (GREAT,), (2, GREAT), (-GREAT,), (True,),
            (2, True), (True, 2), (2, False), (2, None), (None,), ("2",), (2, "3"), "23", [2, 3], ([2, 3],), ((2, 3),),
            ((2,), (3,)), (2, (3,)), (2, [3]), {2: 3}, ({},),
        ]
        for value in wrong + OTHER_KINDS + INTEGERS + NO_BAGS + NO_FAMILIES:
            check_error(self, BadSizes, count_with_sizes, value)
        self.assertEqual(count_with_sizes((3, 2) * 66), factorial(198) // 2 ** 66 // factorial(66) ** 2 * 199 ** 131)


class CountWithDegreesTest(unittest.TestCase):
    def test_few_beads(self):
        for size in range(2, 6):
            found = Counter(map(degrees_of, naive.families(size)))
            for told in product(range(1, size + 1), repeat=size):
                self.assertEqual(count_with_degrees(told), found[told])

    def test_together_they_are_all_families(self):
        for size in (6, 7):
            many = sum(count_with_degrees(told) for told in product(range(1, size), repeat=size))
            self.assertEqual(many, sum(count_with_bags(size, bags) for bags in range(1, size)))

    def test_many_beads(self):
        self.assertEqual(count_with_degrees((1, 1)), 1)
        self.assertEqual([count_with_degrees(told) for told in [(1, 2), (2, 1), (2, 2), (200, 200)]], [0] * 4)
        self.assertEqual(count_with_degrees((1,) * 200), 1)
        self.assertEqual(count_with_degrees((2,) + (1,) * 199), stirling(199, 2))
        self.assertEqual(count_with_degrees((1, 2) + (1,) * 198), stirling(199, 2))
        self.assertEqual(count_with_degrees((199,) + (1,) * 199), 1)
        self.assertEqual(count_with_degrees((200,) + (1,) * 199), 0)
        self.assertEqual(count_with_degrees((1,) + (2,) * 198 + (1,)), factorial(198))
        self.assertEqual(count_with_degrees((2,) * 199 + (1,)), 0)
        self.assertEqual(count_with_degrees((2,) * 200), 0)
        self.assertEqual(count_with_degrees((200,) * 200), 0)
        self.assertEqual(count_with_degrees((3, 4, 2) + (1,) * 197), stirling(199, 7) * 60)

    def test_no_degrees(self):
        wrong = [
            (), (1,), (2,), (0, 1), (1, 0), (-1, 1), (1, -1), (1, 201), (201, 1), (1, GREAT), (GREAT, GREAT), (-GREAT, 1),
            (1,) * 201, (1,) * 202, (2,) * 201, (True, 1), (1, True), (1, False), (1, None), (None, 1), ("1", "1"), (1, "1"),
            "11", [1, 1], ([1, 1],), ((1, 1),), ((1,), (1,)), (1, (1,)), (1, [1]), {1: 1}, (1, {}), (1, 1, 1, 0),
        ]
        for value in wrong + OTHER_KINDS + INTEGERS + NO_BAGS + NO_FAMILIES:
            check_error(self, BadSizes, count_with_degrees, value)


if __name__ == "__main__":
    unittest.main()
