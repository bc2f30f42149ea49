"""Point 14: families of pairs finer than a family, and their prices."""

import random
import unittest
from itertools import combinations

from sharebags.errors import BadBags, BadFamily, BadPrices, TooMany
from sharebags.pairs import cheapest, count_pairs, dearest, pair_families, pair_price_sum, shows_cheapest
from tests import naive
from tests.calls import check_error, check_lists_are_new
from tests.samples import HALVES, LAST_STAR, PATH, STAR, WHOLE, random_family, size_of
from tests.wrong import FAMILIES, GREAT, INTEGERS, NO_BAGS, NO_FAMILIES, OTHER_KINDS

SMALL = [family for size in range(2, 6) for family in naive.families(size)]
RANDOM = [random_family(random.Random(seed), size) for seed in range(6) for size in (8, 60)]
BIG = [PATH, STAR, LAST_STAR, WHOLE, HALVES]
FAMILY = ((0, 1, 2), (2, 3))
PRICES = ((0, 1, 2, 9), (1, 0, 4, 9), (2, 4, 0, 5), (9, 9, 5, 0))


def finer_pairs(family):
    """The ascending list of the finer families that have pairs alone."""
    return [fine for fine in naive.finer(family) if all(len(bag) == 2 for bag in fine)]


def random_prices(source, size, most):
    rows = [[0] * size for _ in range(size)]
    for low, high in combinations(range(size), 2):
        rows[low][high] = rows[high][low] = source.randint(0, most)
    return tuple(map(tuple, rows))


def line_prices(size):
    """Prices as the beads stand on a line."""
    return tuple(tuple(abs(one - other) for other in range(size)) for one in range(size))


def same_prices(size, price):
    return tuple(tuple(price if one != other else 0 for other in range(size)) for one in range(size))


def price_of(fine, prices):
    return sum(prices[low][high] for low, high in fine)


def best_sum(family, prices, order):
    """The least sum of prices: of all pairs in bags in their order each one that joins what is not joined yet."""
    pairs = sorted({pair for bag in family for pair in combinations(bag, 2)}, key=lambda pair: order * prices[pair[0]][pair[1]])
    names = list(range(size_of(family)))
    whole = 0
    for low, high in pairs:
        if names[low] != names[high]:
            whole += prices[low][high]
            names = [names[low] if name == names[high] else name for name in names]
    return whole


class PairFamiliesTest(unittest.TestCase):
    def test_small_families(self):
        for family in SMALL + [((0, 1, 2, 3, 4), (4, 5)), ((0, 1, 2, 3), (3, 4, 5)), ((0, 2, 4), (1, 4, 5), (3, 5))]:
            expected = finer_pairs(family)
            self.assertEqual(count_pairs(family), len(expected))
            self.assertEqual(pair_families(family), expected)

    def test_sixty_beads(self):
        self.assertEqual([count_pairs(family) for family in BIG], [1, 1, 1, 60 ** 58, 30 ** 28 * 31 ** 29])
        for family in (PATH, STAR, LAST_STAR):
            self.assertEqual(pair_families(family), [family])
        almost = ((0, 1, 2),) + PATH[2:]
        self.assertEqual(count_pairs(almost), 3)
        self.assertEqual(pair_families(almost), [((0, 1), (0, 2)) + PATH[2:], PATH, ((0, 2), (1, 2)) + PATH[2:]])

    def test_greatest_lists(self):
        # The numbers are products of 3, 16, 125, ..: there is none from 433 to 728.
        family = ((0, 1, 2, 3), (3, 4, 5), (5, 6, 7), (7, 8, 9))
        self.assertEqual(count_pairs(family), 432)
        found = pair_families(family)
        self.assertEqual((len(found), len(set(found))), (432, 432))
        self.assertEqual(found, sorted(found))
        for fine in found[::50]:
            self.assertIn(family, naive.coarser(fine))
            self.assertEqual({len(bag) for bag in fine}, {2})
        triples = tuple((2 * k, 2 * k + 1, 2 * k + 2) for k in range(6))
        self.assertEqual([count_pairs(triples[:5]), len(pair_families(triples[:5]))], [243, 243])
        self.assertEqual(count_pairs(triples), 729)
        for family in (triples, ((0, 1, 2, 3, 4, 5),), WHOLE, HALVES):
            self.assertEqual(check_error(self, TooMany, pair_families, family).most, 500)
        self.assertEqual([len(pair_families(((0, 1, 2, 3, 4),))), count_pairs(((0, 1, 2, 3, 4, 5),))], [125, 1296])

    def test_lists_are_new(self):
        check_lists_are_new(self, [lambda: pair_families(FAMILY), lambda: pair_families(PATH)])


class PricesTest(unittest.TestCase):
    def check_all(self, family, prices):
        """Check the answers for prices against all finer families of pairs."""
        sums = {fine: price_of(fine, prices) for fine in finer_pairs(family)}
        least, fine = cheapest(family, prices)
        self.assertEqual(least, min(sums.values()))
        self.assertEqual(sums[fine], least)
        self.assertEqual(dearest(family, prices), max(sums.values()))
        self.assertEqual(pair_price_sum(family, prices), sum(sums.values()))
        for value in naive.families(size_of(family)):
            expected = value in sums and sums[value] == least
            self.assertIs(shows_cheapest(family, prices, value), expected)

    def test_small_families(self):
        source = random.Random(1)
        for family in SMALL:
            for most in (3, 1, 10 ** 6)[: 3 if size_of(family) < 5 else 1]:
                self.check_all(family, random_prices(source, size_of(family), most))

    def test_least_and_greatest_prices(self):
        for family in SMALL[::9] + FAMILIES + BIG:
            size, many = size_of(family), count_pairs(family)
            for price in (0, 1, 10 ** 6):
                prices = same_prices(size, price)
                least, fine = cheapest(family, prices)
                self.assertEqual([least, dearest(family, prices)], [price * (size - 1)] * 2)
                self.assertEqual(pair_price_sum(family, prices), price * (size - 1) * many)
                self.assertIs(shows_cheapest(family, prices, fine), True)
        for price in (10 ** 6 + 1, -1, GREAT):
            for function in (cheapest, dearest, pair_price_sum):
                check_error(self, BadPrices, function, FAMILY, same_prices(4, price))
            check_error(self, BadPrices, shows_cheapest, FAMILY, same_prices(4, price), FAMILY)

    def test_sixty_beads(self):
        line = line_prices(60)
        self.assertEqual(cheapest(WHOLE, line), (59, PATH))
        self.assertEqual(dearest(WHOLE, line), 59 + sum(max(k, 59 - k) for k in range(1, 59)))
        # Each pair is in 2 of 60 families of pairs, all pairs together are 59 * 60 * 61 / 6 apart.
        self.assertEqual(pair_price_sum(WHOLE, line), 59 * 10 * 61 * 2 * 60 ** 57)
        self.assertEqual(cheapest(STAR, line), (59 * 30, STAR))
        self.assertEqual([dearest(PATH, line), pair_price_sum(STAR, line), pair_price_sum(PATH, line)], [59, 59 * 30, 59])
        self.assertIs(shows_cheapest(WHOLE, line, PATH), True)
        for value in (STAR, LAST_STAR, WHOLE, HALVES, PATH[:58], tuple(range(60))):
            self.assertIs(shows_cheapest(WHOLE, line, value), False)
        same = same_prices(60, 7)
        self.assertTrue(all(shows_cheapest(WHOLE, same, value) for value in (PATH, STAR, LAST_STAR)))
        self.assertEqual([shows_cheapest(HALVES, same, value) for value in (PATH, STAR, HALVES)], [True, False, False])

    def test_random_families(self):
        source = random.Random(2)
        for family in RANDOM + [WHOLE, HALVES, STAR]:
            for most in (2, 40, 10 ** 6):
                prices = random_prices(source, size_of(family), most)
                least, fine = cheapest(family, prices)
                self.assertEqual(least, best_sum(family, prices, 1))
                self.assertEqual(price_of(fine, prices), least)
                self.assertEqual(dearest(family, prices), best_sum(family, prices, -1))
                self.assertIs(shows_cheapest(family, prices, fine), True)
                self.assertEqual(naive.bar(fine) if len(fine) < 20 else None, None)
                self.assertTrue(all(any(set(pair) <= set(bag) for bag in family) for pair in fine))

    def test_two_beads(self):
        family, prices = ((0, 1),), ((0, 8), (8, 0))
        self.assertEqual([count_pairs(family), pair_families(family)], [1, [family]])
        self.assertEqual(cheapest(family, prices), (8, family))
        self.assertEqual([dearest(family, prices), pair_price_sum(family, prices)], [8, 8])
        self.assertIs(shows_cheapest(family, prices, family), True)

    def test_no_prices(self):
        good = PRICES
        wrong = [
            # wrong lengths and kinds
            (), good[:3], good + (good[0],), good + ((),), tuple(row[:3] for row in good), ((0,),), ((0, 1), (1, 0)),
            list(good), [list(row) for row in good], tuple(list(row) for row in good), (list(good[0]), *good[1:]),
            (good[0][:3], *good[1:]), (good[0] + (0,), *good[1:]), (None, *good[1:]), (0, *good[1:]), ("0129", *good[1:]),
            (True, *good[1:]), ({0: 0, 1: 1, 2: 2, 3: 9}, *good[1:]), (good,), (good, good, good, good), 0, "0",
            ((0, True, 2, 9), (True, 0, 4, 9), (2, 4, 0, 5), (9, 9, 5, 0)), ((False, 1, 2, 9), *good[1:]),
            ((0, None, 2, 9), (None, 0, 4, 9), (2, 4, 0, 5), (9, 9, 5, 0)), ((0, 1, 2, "9"), *good[1:3], ("9", 9, 5, 0)),
            ((0, (1,), 2, 9), ((1,), 0, 4, 9), *good[2:]), ((0, [1], 2, 9), ([1], 0, 4, 9), *good[2:]),
            # not alike both ways
            ((0, 2, 2, 9), *good[1:]), (good[0], (3, 0, 4, 9), *good[2:]), (*good[:3], (9, 9, 6, 0)), (*good[:3], (8, 9, 5, 0)),
            ((0, True, 2, 9), *good[1:]), (good[0], (True, 0, 4, 9), *good[2:]),
            # not 0 from a bead to itself
            ((1, 1, 2, 9), *good[1:]), (*good[:3], (9, 9, 5, 1)), (good[0], (1, 10 ** 6, 4, 9), *good[2:]),
            # beyond the limits
            ((0, 1, 2, 10 ** 6 + 1), *good[1:3], (10 ** 6 + 1, 9, 5, 0)), ((0, 1, 2, -1), *good[1:3], (-1, 9, 5, 0)),
            ((0, 1, 2, GREAT), *good[1:3], (GREAT, 9, 5, 0)), ((-1, 1, 2, 9), *good[1:]),
        ]
        for value in wrong + OTHER_KINDS + INTEGERS + NO_BAGS + NO_FAMILIES + FAMILIES:
            for function in (cheapest, dearest, pair_price_sum):
                check_error(self, BadPrices, function, FAMILY, value)
            for shown in (None, ((0, 1), (0, 2), (2, 3))):
                check_error(self, BadPrices, shows_cheapest, FAMILY, value, shown)
        last = ((0, 1, 2, 10 ** 6), *good[1:3], (10 ** 6, 9, 5, 0))
        self.assertEqual(cheapest(FAMILY, last)[0], 8)

    def test_the_family_comes_first(self):
        for prices in (PRICES, None, [], (), ((1,),)):
            for value in NO_BAGS[::5]:
                check_error(self, BadBags, cheapest, value, prices)
                check_error(self, BadBags, shows_cheapest, value, prices, value)
            for value in NO_FAMILIES[::3]:
                check_error(self, BadFamily, dearest, value, prices)
                check_error(self, BadFamily, shows_cheapest, value, prices, value)


class ShowsTest(unittest.TestCase):
    def test_values_that_are_none(self):
        good = ((0, 1), (0, 2), (2, 3))
        self.assertIs(shows_cheapest(FAMILY, PRICES, good), True)
        wrong = [
            list(good), [list(pair) for pair in good], tuple(list(pair) for pair in good), (good,), (8, good), good[:2], good[1:],
            ((0, True), (0, 2), (2, 3)), ((False, 1), (0, 2), (2, 3)), ((0, 2), (0, 1), (2, 3)), ((1, 0), (0, 2), (2, 3)),
            good + ((3, 4),), ((0, 1), (0, 2), (0, 3)), ((0, 1), (1, 2), (2, 3)), ((0, 2), (1, 2), (2, 3)), FAMILY,
            ((0, 1), (0, 2), (1, 2), (2, 3)), ((0, 1), (0, 1), (0, 2), (2, 3)), ((0, 1), (2, 3)), ((0, 1), (1, 2)),
        ]
        for value in wrong + OTHER_KINDS + INTEGERS + NO_BAGS + NO_FAMILIES:
            self.assertIs(shows_cheapest(FAMILY, PRICES, value), False, value)

    def test_families_of_other_beads(self):
        for family in FAMILIES:
            prices = same_prices(size_of(family), 0)
            for value in FAMILIES + [PATH, STAR]:
                expected = len(value) == size_of(family) - 1 and size_of(value) == size_of(family)
                expected = expected and all(any(set(pair) <= set(bag) for bag in family) for pair in value)
                self.assertIs(shows_cheapest(family, prices, value), expected)


if __name__ == "__main__":
    unittest.main()
