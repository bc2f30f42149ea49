"""Point 18: a pourer that pours any two bags equally likely."""

import random
import unittest
from fractions import Fraction
from functools import lru_cache
from itertools import combinations
from math import comb, factorial, gcd, prod

from sharebags.blind import chances, last_pair, likeliest, mean_greatest, mean_wait, together_chance
from sharebags.errors import BadBags, BadBead, BadFamily, BadNumber, TooGreat
from tests import naive
from tests.calls import check_error
from tests.samples import HALVES, LAST_STAR, PATH, STAR, WHOLE, random_family, size_of
from tests.wrong import FAMILIES, GREAT, NO_BAGS, NO_FAMILIES, OTHER_KINDS

SMALL = [family for size in range(2, 6) for family in naive.families(size)]
PATH_OF_8 = PATH[:8]
STAR_OF_8 = STAR[:8]
LONG = tuple(tuple(range(7 * k, 7 * k + 8)) for k in range(8))
FAMILY = ((0, 1), (1, 2), (2, 3))


def few_bags(source, size, bags):
    """A random family with so many beads and bags."""
    while True:
        family = random_family(source, size)
        while len(family) > bags:
            family = source.choice(naive.poured(family))
        if len(family) == bags:
            return family


RANDOM = [few_bags(random.Random(seed), size, bags) for seed in range(2) for size in (9, 14, 60) for bags in (4, 5)]


@lru_cache(maxsize=None)
def dealt(family, times):
    """The chances of the families behind so many pourings, by the first one of these."""
    if times == 0:
        return {family: Fraction(1)}
    pairs = [pair for pair in combinations(family, 2) if set(pair[0]) & set(pair[1])]
    found = {}
    for one, other in pairs:
        poured = tuple(sorted(set(family) - {one, other} | {tuple(sorted(set(one) | set(other)))}))
        for coarse, chance in dealt(poured, times - 1).items():
            found[coarse] = found.get(coarse, 0) + chance / len(pairs)
    return found


def share(part):
    part = Fraction(part)
    return (part.numerator, part.denominator)


def together(family, one, other):
    return any(one in bag and other in bag for bag in family)


@lru_cache(maxsize=None)
def wait(family, one, other):
    """The mean number of pourings until two beads lie in one bag, by the first one of these."""
    if together(family, one, other):
        return Fraction(0)
    return 1 + sum(chance * wait(coarse, one, other) for coarse, chance in dealt(family, 1).items())


class ChancesTest(unittest.TestCase):
    def check_all(self, family):
        for times in range(len(family)):
            found = dealt(family, times)
            self.assertEqual(chances(family, times), tuple((coarse, share(found[coarse])) for coarse in sorted(found)))
            greatest = max(found.values())
            self.assertEqual(likeliest(family, times), min(coarse for coarse in found if found[coarse] == greatest))
            mean = sum(chance * max(map(len, coarse)) for coarse, chance in found.items())
            self.assertEqual(mean_greatest(family, times), share(mean))
        expected = chances(family, len(family) - 2) if len(family) > 1 else ()
        self.assertEqual(last_pair(family), expected)

    def check_beads(self, family, pairs):
        for one, other in pairs:
            for times in range(len(family)):
                chance = sum(chance for coarse, chance in dealt(family, times).items() if together(coarse, one, other))
                self.assertEqual(together_chance(family, one, other, times), share(chance))
            self.assertEqual(mean_wait(family, one, other), share(wait(family, one, other)))

    def test_small_families(self):
        for family in SMALL:
            self.check_all(family)
            beads = range(size_of(family))
            self.check_beads(family, [(one, other) for one in beads for other in beads if size_of(family) < 5 or one < other])

    def test_more_beads(self):
        source = random.Random(1)
        for family in RANDOM:
            self.check_all(family)
            self.check_beads(family, [source.sample(range(size_of(family)), 2) for _ in range(4)])

    def test_a_family_in_which_not_all_pourings_are_as_many(self):
        # Four pairs of bags share a bead; behind a pouring at bead 0 two do, behind that at bead 3 three.
        family = ((0, 1), (0, 2), (0, 3), (3, 4))
        self.assertEqual(dict(chances(family, 1))[((0, 1), (0, 2), (0, 3, 4))], (1, 4))
        found = dict(chances(family, 2))
        self.assertEqual(found[((0, 1, 2, 3), (3, 4))], (3, 8))
        self.check_all(family)

    def test_no_pouring_and_all(self):
        for family in SMALL[::7] + RANDOM + [PATH_OF_8, STAR_OF_8, LONG, WHOLE, HALVES]:
            self.assertEqual(chances(family, 0), ((family, (1, 1)),))
            self.assertEqual(likeliest(family, 0), family)
            self.assertEqual(mean_greatest(family, 0), (max(map(len, family)), 1))
            size = size_of(family)
            whole = (tuple(range(size)),)
            last = len(family) - 1
            self.assertEqual(chances(family, last), ((whole, (1, 1)),))
            self.assertEqual((likeliest(family, last), mean_greatest(family, last)), (whole, (size, 1)))
            self.assertEqual(together_chance(family, 0, size - 1, last), (1, 1))
            for times in (-1, last + 1, last + 2):
                for function in (chances, likeliest, mean_greatest):
                    check_error(self, BadNumber, function, family, times)
                check_error(self, BadNumber, together_chance, family, 0, 1, times)

    def test_eight_bags_in_a_row(self):
        # Any set of the places where bags are not poured yet is equally likely.
        for family in (PATH_OF_8, LONG):
            size = size_of(family)
            for times in range(8):
                found = chances(family, times)
                self.assertEqual(len(found), comb(7, times))
                self.assertEqual({chance for _, chance in found}, {share(Fraction(1, comb(7, times)))})
                self.assertEqual([coarse for coarse, _ in found], sorted(coarse for coarse, _ in found))
                self.assertEqual(likeliest(family, times), found[0][0])
            # They are in one bag as soon as all places between them are poured through: the last one of so many of 7.
            self.assertEqual(mean_wait(family, 0, size - 1), (7, 1))
            self.assertEqual(len(last_pair(family)), 7)
        for bead in range(1, 9):
            self.assertEqual(mean_wait(PATH_OF_8, 0, bead), share(Fraction(8 * (bead - 1), bead)))

    def test_eight_bags_at_one_bead(self):
        for times in range(8):
            parts = 8 - times
            expected = {}
            for coarse in naive.coarser(STAR_OF_8):
                if len(coarse) == parts:
                    many = factorial(times) * factorial(parts) * factorial(parts - 1)
                    many *= prod(factorial(len(bag) - 1) for bag in coarse)
                    expected[coarse] = share(Fraction(many, factorial(8) * factorial(7)))
            self.assertEqual(dict(chances(STAR_OF_8, times)), expected)
        self.assertEqual(likeliest(STAR_OF_8, 6), ((0, 1), tuple(k for k in range(9) if k != 1)))
        # Two of k parts meet in the next pouring with the chance 1 of k * (k - 1) / 2.
        apart, mean = Fraction(1), Fraction(0)
        for parts in range(8, 1, -1):
            mean += apart
            apart *= 1 - Fraction(1, comb(parts, 2))
            self.assertEqual(together_chance(STAR_OF_8, 3, 8, 9 - parts), share(1 - apart))
        self.assertEqual(mean_wait(STAR_OF_8, 3, 8), share(mean))

    def test_beads_in_one_bag_from_the_beginning(self):
        for family in SMALL[::5] + RANDOM + [PATH_OF_8, LONG, WHOLE, HALVES]:
            for bag in family:
                for one, other in ((bag[0], bag[-1]), (bag[-1], bag[0]), (bag[0], bag[0])):
                    self.assertEqual(mean_wait(family, one, other), (0, 1))
                    for times in {0, len(family) - 1}:
                        self.assertEqual(together_chance(family, one, other, times), (1, 1))

    def test_last_pair_of_one_bag_and_of_two(self):
        for family in (((0, 1),), WHOLE):
            self.assertEqual(last_pair(family), ())
        for family in (((0, 1), (1, 2)), HALVES):
            self.assertEqual(last_pair(family), ((family, (1, 1)),))
        self.assertEqual(last_pair(FAMILY), ((((0, 1), (1, 2, 3)), (1, 2)), (((0, 1, 2), (2, 3)), (1, 2))))

    def test_lowest_terms(self):
        for family in RANDOM + [PATH_OF_8, STAR_OF_8]:
            found = [mean_wait(family, 0, size_of(family) - 1), together_chance(family, 0, 1, len(family) // 2)]
            found += [mean_greatest(family, len(family) // 2)]
            found += [chance for _, chance in chances(family, len(family) // 2) + last_pair(family)]
            for value in found:
                self.assertEqual([type(value), type(value[0]), type(value[1])], [tuple, int, int])
                self.assertEqual(gcd(*value), 1)
                self.assertGreater(value[1], 0)
            self.assertEqual(sum(Fraction(*chance) for _, chance in last_pair(family)), 1)
        self.assertEqual(together_chance(FAMILY, 0, 3, 0), (0, 1))
        self.assertEqual(together_chance(FAMILY, 0, 3, 1), (0, 1))


class TooGreatTest(unittest.TestCase):
    CALLS = [
        lambda family: chances(family, 0), lambda family: likeliest(family, 0), lambda family: mean_greatest(family, 0),
        lambda family: together_chance(family, 0, 1, 0), lambda family: mean_wait(family, 0, 1), last_pair,
    ]

    def test_eight_bags_and_nine(self):
        for call in self.CALLS:
            for family in (PATH_OF_8, STAR_OF_8, LONG):
                call(family)
            for family in (PATH[:9], STAR[:9], PATH, STAR, LAST_STAR, LONG[:7] + ((49, 50), (50, 51))):
                self.assertEqual(check_error(self, TooGreat, call, family).most, 8)

    def test_behind_bad_family_and_ahead_of_the_others(self):
        nine = PATH[:9]
        for value in OTHER_KINDS + [-1, 9, 10, GREAT, (), (0,)]:
            for function in (chances, likeliest, mean_greatest):
                check_error(self, TooGreat, function, nine, value)
            check_error(self, TooGreat, mean_wait, nine, value, value)
            check_error(self, TooGreat, mean_wait, nine, 0, value)
            for one, other, times in ((value, value, value), (0, value, 0), (0, 0, value), (value, 0, 0)):
                check_error(self, TooGreat, together_chance, nine, one, other, times)
        for family in (PATH[1:12], PATH[:9] + PATH[10:20], PATH[:9] + ((8, 9, 10),), tuple(sorted(PATH[:11] + ((0, 11),)))):
            for call in self.CALLS:
                check_error(self, BadFamily, call, family)
        for bags in (list(PATH), PATH + ((58, 60),), PATH[::-1], PATH + PATH[:1]):
            for call in self.CALLS:
                check_error(self, BadBags, call, bags)

    def test_no_families(self):
        for call in self.CALLS:
            for value in NO_BAGS:
                check_error(self, BadBags, call, value)
            for value in NO_FAMILIES:
                check_error(self, BadFamily, call, value)

    def test_other_values(self):
        for value in OTHER_KINDS + [-1, GREAT, -GREAT, (), (0,), ((0, 1),), 60]:
            for family in FAMILIES[:7] + [WHOLE]:
                for function in (chances, likeliest, mean_greatest):
                    check_error(self, BadNumber, function, family, value)
                for times in (0, -1, None, value):
                    check_error(self, BadBead, together_chance, family, value, 0, times)
                    check_error(self, BadBead, together_chance, family, 1, value, times)
                check_error(self, BadNumber, together_chance, family, 1, 0, value)
                for bead in (0, value):
                    check_error(self, BadBead, mean_wait, family, value, bead)
                check_error(self, BadBead, mean_wait, family, 1, value)


if __name__ == "__main__":
    unittest.main()
