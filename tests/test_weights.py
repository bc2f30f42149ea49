"""Points 11 and 15: loads of bags and beads, and beads with weights."""

import random
import unittest
from itertools import combinations
from math import comb

from sharebags.errors import BadBags, BadFamily, BadPrices
from sharebags.weights import bag_loads, bead_loads, best_place, count_apart, heaviest_apart
from sharebags.weights import heaviest_joined, least_cover, shows_apart, weighed_pairs, weighed_sums
from tests import naive
from tests.calls import check_error
from tests.samples import HALVES, LAST_STAR, PATH, STAR, WHOLE, random_family, size_of
from tests.wrong import FAMILIES, GREAT, INTEGERS, NO_BAGS, NO_FAMILIES, OTHER_KINDS

SMALL = [family for size in range(2, 6) for family in naive.families(size)]
RANDOM = [random_family(random.Random(seed), size) for seed in range(8) for size in (7, 9, 60)]
FEW = SMALL + [family for family in RANDOM if size_of(family) < 60]
BIG = [PATH, STAR, LAST_STAR, WHOLE, HALVES]
FAMILY = ((0, 1, 2), (2, 3))
WEIGHTS = (1, 2, 3, 4)
MOST = 10 ** 6
ONES = (1,) * 60


def subsets(size):
    return [some for many in range(size + 1) for some in combinations(range(size), many)]


def random_weights(source, size, least, most):
    return tuple(source.randint(least, most) for _ in range(size))


def some_weights(size):
    """Weights of several kinds for so many beads."""
    source = random.Random(size)
    return [(0,) * size, (1,) * size, (MOST,) * size] + [random_weights(source, size, 0, most) for most in (2, 9, MOST)]


def apart_sets(family):
    """All sets of beads no two of which share a bag."""
    return [some for some in subsets(size_of(family)) if not any(len(set(some) & set(bag)) > 1 for bag in family)]


def joined_sets(family):
    """All sets of beads, not empty, that have the beads on the ways between any two of them."""
    found = []
    for some in subsets(size_of(family))[1:]:
        ways = [naive.all_ways(family, one, other)[0] for one, other in combinations(some, 2)]
        if all(set(steps[::2]) <= set(some) for steps in ways):
            found.append(some)
    return found


def weigh(some, weights):
    return sum(weights[bead] for bead in some)


def renamed(source, family, weights):
    """The family with its beads in another order, and their weights."""
    names = list(range(size_of(family)))
    source.shuffle(names)
    bags = tuple(sorted(tuple(sorted(names[bead] for bead in bag)) for bag in family))
    return bags, tuple(weights[names.index(name)] for name in range(len(names)))


class LoadsTest(unittest.TestCase):
    def test_small_families(self):
        for family in FEW:
            ways = [naive.all_ways(family, *pair)[0] for pair in combinations(range(size_of(family)), 2)]
            bags = tuple(sum(index in way[1::2] for way in ways) for index in range(len(family)))
            beads = tuple(sum(bead in way[2:-1:2] for way in ways) for bead in range(size_of(family)))
            self.assertEqual((bag_loads(family), bead_loads(family)), (bags, beads))

    def test_sixty_beads(self):
        self.assertEqual(bag_loads(PATH), tuple((k + 1) * (59 - k) for k in range(59)))
        self.assertEqual(bead_loads(PATH), tuple(k * (59 - k) for k in range(60)))
        self.assertEqual([bag_loads(STAR), bead_loads(STAR)], [(59,) * 59, (comb(59, 2),) + (0,) * 59])
        self.assertEqual([bag_loads(LAST_STAR), bead_loads(LAST_STAR)], [(59,) * 59, (0,) * 59 + (comb(59, 2),)])
        self.assertEqual([bag_loads(WHOLE), bead_loads(WHOLE)], [(59 * 30,), (0,) * 60])
        self.assertEqual(bag_loads(HALVES), (comb(29, 2) + 29 * 31, comb(30, 2) + 30 * 30))
        self.assertEqual(bead_loads(HALVES), (0,) * 29 + (29 * 30,) + (0,) * 30)
        self.assertEqual([bag_loads(((0, 1),)), bead_loads(((0, 1),))], [(1,), (0, 0)])

    def test_loads_make_all_distances(self):
        for family in RANDOM + BIG:
            rows = [naive.bead_distances(family, bead) for bead in range(size_of(family))]
            pairs = [rows[one][other] for one, other in combinations(range(len(rows)), 2)]
            self.assertEqual(sum(bag_loads(family)), sum(pairs))
            # A way has one inner bead less than bags.
            self.assertEqual(sum(bead_loads(family)), sum(pairs) - len(pairs))


class PlacesTest(unittest.TestCase):
    def test_against_all_distances(self):
        for family in FEW + RANDOM + FAMILIES:
            size = size_of(family)
            rows = [naive.bead_distances(family, bead) for bead in range(size)]
            for weights in some_weights(size)[:: 1 if size != 5 else 4]:
                sums = [sum(weights[other] * rows[bead][other] for other in range(size)) for bead in range(size)]
                self.assertEqual(weighed_sums(family, weights), tuple(sums))
                self.assertEqual(best_place(family, weights), (min(sums), sums.index(min(sums))))
                pairs = [weights[one] * weights[other] * rows[one][other] for one, other in combinations(range(size), 2)]
                self.assertEqual(weighed_pairs(family, weights), sum(pairs))

    def test_sixty_beads(self):
        self.assertEqual(weighed_sums(PATH, (1,) + (0,) * 59), tuple(range(60)))
        self.assertEqual([best_place(PATH, ONES), best_place(STAR, ONES), best_place(WHOLE, ONES)], [(900, 29), (59, 0), (59, 0)])
        self.assertEqual(best_place(LAST_STAR, (MOST,) * 60), (59 * MOST, 59))
        self.assertEqual(best_place(WHOLE, (1,) * 30 + (2,) + (1,) * 29), (59, 30))
        self.assertEqual(weighed_pairs(WHOLE, (MOST,) * 60), 1770 * MOST ** 2)
        self.assertEqual(weighed_pairs(PATH, (2,) + (0,) * 58 + (5,)), 590)

    def test_all_weights_0(self):
        for family in FAMILIES + BIG:
            size = size_of(family)
            zeros = (0,) * size
            self.assertEqual(weighed_sums(family, zeros), zeros)
            self.assertEqual((best_place(family, zeros), weighed_pairs(family, zeros)), ((0, 0), 0))
            self.assertEqual((least_cover(family, zeros), heaviest_joined(family, zeros)), (0, 0))
            whole, some = heaviest_apart(family, zeros)
            self.assertEqual(whole, 0)
            self.assertIs(shows_apart(family, zeros, some), True)
            # Each such set, the empty one as well, has the greatest sum then.
            self.assertTrue(all(shows_apart(family, zeros, value) for value in ((), (0,), (size - 1,))))
            self.assertIs(shows_apart(family, zeros, family[0][:2]), False)


class ApartTest(unittest.TestCase):
    def test_all_sets(self):
        for family in FEW:
            size = size_of(family)
            sets = apart_sets(family)
            self.assertEqual(count_apart(family), len(sets))
            for weights in some_weights(size)[:: 1 if size < 5 else 3]:
                greatest = max(weigh(some, weights) for some in sets)
                whole, chosen = heaviest_apart(family, weights)
                self.assertEqual(whole, greatest)
                self.assertIn(chosen, sets)
                self.assertEqual(weigh(chosen, weights), greatest)
                for some in subsets(size)[:: 1 if size < 9 else 7]:
                    expected = some in sets and weigh(some, weights) == greatest
                    self.assertIs(shows_apart(family, weights, some), expected)

    def test_sixty_beads(self):
        fibonacci = [1, 2]
        while len(fibonacci) <= 60:
            fibonacci.append(fibonacci[-1] + fibonacci[-2])
        self.assertEqual([count_apart(PATH), count_apart(STAR), count_apart(WHOLE)], [fibonacci[60], 2 ** 59 + 1, 61])
        self.assertEqual([count_apart(LAST_STAR), count_apart(HALVES)], [2 ** 59 + 1, 1 + 60 + 29 * 30])
        self.assertEqual(heaviest_apart(PATH, ONES)[0], 30)
        self.assertEqual(heaviest_apart(STAR, ONES), (59, tuple(range(1, 60))))
        self.assertEqual(heaviest_apart(STAR, (60,) + (1,) * 59), (60, (0,)))
        self.assertEqual(heaviest_apart(WHOLE, (MOST,) + (1,) * 59), (MOST, (0,)))
        self.assertEqual(heaviest_apart(HALVES, tuple(range(60))), (28 + 59, (28, 59)))
        self.assertIs(shows_apart(PATH, ONES, tuple(range(0, 60, 2))), True)
        self.assertIs(shows_apart(PATH, ONES, tuple(range(1, 60, 2))), True)
        self.assertIs(shows_apart(PATH, ONES, tuple(range(2, 60, 2))), False)
        self.assertIs(shows_apart(PATH, ONES, tuple(range(60))), False)
        self.assertTrue(all(shows_apart(WHOLE, ONES, (bead,)) for bead in range(60)))

    def test_many_beads_with_other_names(self):
        source = random.Random(4)
        for family in RANDOM + BIG:
            size = size_of(family)
            for weights in some_weights(size)[3:]:
                whole, chosen = heaviest_apart(family, weights)
                self.assertEqual(weigh(chosen, weights), whole)
                self.assertFalse(any(len(set(chosen) & set(bag)) > 1 for bag in family))
                self.assertIs(shows_apart(family, weights, chosen), True)
                self.assertIs(shows_apart(family, weights, chosen[1:]), weights[chosen[0]] == 0)
                told = renamed(source, family, weights)
                self.assertEqual(heaviest_apart(*told)[0], whole)
                self.assertEqual(least_cover(*told), least_cover(family, weights))
                self.assertEqual(count_apart(told[0]), count_apart(family))
                # In families of pairs the beads that are not in a set apart are a cover.
                if all(len(bag) == 2 for bag in family):
                    self.assertEqual(least_cover(family, weights), sum(weights) - whole)

    def test_values_that_are_no_sets(self):
        self.assertIs(shows_apart(FAMILY, WEIGHTS, (1, 3)), True)
        wrong = [
            [1, 3], (3, 1), (1, 1, 3), (1, 3, 3), (True, 3), (1, 3, 4), (1, 3, 60), (1, 3, GREAT), (-1, 1, 3), (1, "3"), (1, None),
            ((1, 3),), (1, (3,)), (1, [3]), {1: 1, 3: 3}, (6, (1, 3)), "13", (0, 3), (1,), (3,), (2,), (2, 3), (0, 1), (0, 1, 3), (),
            (1, {}),
        ]
        for value in wrong + OTHER_KINDS + INTEGERS + NO_BAGS + NO_FAMILIES + FAMILIES:
            self.assertIs(shows_apart(FAMILY, WEIGHTS, value), False, value)
        self.assertIs(shows_apart(((0, 1),), (0, 0), (2,)), False)
        self.assertIs(shows_apart(((0, 1),), (0, 0), (59,)), False)
        self.assertIs(shows_apart(((0, 1),), (0, 0), (False,)), False)


class CoverTest(unittest.TestCase):
    def test_all_sets(self):
        for family in FEW:
            size = size_of(family)
            covers = [some for some in subsets(size) if all(set(some) & set(bag) for bag in family)]
            for weights in some_weights(size)[:: 1 if size < 5 else 3]:
                self.assertEqual(least_cover(family, weights), min(weigh(some, weights) for some in covers))

    def test_sixty_beads(self):
        self.assertEqual([least_cover(PATH, ONES), least_cover(STAR, ONES), least_cover(WHOLE, ONES)], [30, 1, 1])
        self.assertEqual(least_cover(STAR, (MOST,) + (1,) * 59), 59)
        self.assertEqual([least_cover(HALVES, ONES), least_cover(HALVES, (5,) * 29 + (11,) + (5,) * 30)], [1, 10])


class JoinedTest(unittest.TestCase):
    def test_all_sets(self):
        source = random.Random(3)
        for family in FEW:
            size = size_of(family)
            sets = joined_sets(family)
            rows = [random_weights(source, size, -most, most) for most in (1, 9, MOST)]
            rows += [random_weights(source, size, -MOST, -1), random_weights(source, size, -9, 0), (-MOST,) * size]
            for weights in rows + some_weights(size)[3:5]:
                self.assertEqual(heaviest_joined(family, weights), max(weigh(some, weights) for some in sets))

    def test_all_weights_below_0(self):
        for family in FAMILIES + BIG:
            size = size_of(family)
            self.assertEqual(heaviest_joined(family, (-MOST,) * size), -MOST)
            self.assertEqual(heaviest_joined(family, tuple(-k - 1 for k in range(size))), -1)
            self.assertEqual(heaviest_joined(family, tuple(k - 60 for k in range(size))), size - 61)
            self.assertEqual(heaviest_joined(family, (-5,) * (size - 1) + (0,)), 0)
            check_error(self, BadPrices, heaviest_joined, family, (-MOST - 1,) + (0,) * (size - 1))

    def test_sixty_beads(self):
        source = random.Random(6)
        for _ in range(9):
            weights = random_weights(source, 60, -9, 9)
            runs = [sum(weights[first:last]) for first in range(60) for last in range(first + 1, 61)]
            self.assertEqual(heaviest_joined(PATH, weights), max(runs))
            above = [weight for weight in weights if weight > 0]
            self.assertEqual(heaviest_joined(WHOLE, weights), sum(above))
            behind = sum(weight for weight in weights[1:] if weight > 0)
            self.assertEqual(heaviest_joined(STAR, weights), max(weights[0] + behind, *weights))
            ahead = sum(weight for weight in weights[:-1] if weight > 0)
            self.assertEqual(heaviest_joined(LAST_STAR, weights), max(weights[-1] + ahead, *weights))
        # Two beads of one bag hang together without the bead of it that is nearest to bead 0.
        self.assertEqual(heaviest_joined(HALVES, (-MOST,) * 58 + (3, 4)), 7)
        self.assertEqual(heaviest_joined(((0, 1), (1, 2, 3)), (-9, -9, 3, 4)), 7)
        for family in RANDOM:
            weights = random_weights(source, size_of(family), -MOST, MOST)
            self.assertEqual(heaviest_joined(family, weights), heaviest_joined(*renamed(source, family, weights)))


class WrongWeightsTest(unittest.TestCase):
    CALLS = [weighed_sums, best_place, weighed_pairs, heaviest_apart, least_cover, heaviest_joined]

    def test_no_weights(self):
        wrong = [
            (), (1, 2, 3), (1, 2, 3, 4, 5), [1, 2, 3, 4], (True, 2, 3, 4), (1, 2, 3, False), (1, 2, 3, None), (1, 2, 3, "4"),
            "1234", ("1", "2", "3", "4"), ((1, 2, 3, 4),), ((1,), 2, 3, 4), ([1], 2, 3, 4), (1, {}, 3, 4), {0: 1, 1: 2, 2: 3, 3: 4},
            (1, 2, 3, MOST + 1), (MOST + 1, 2, 3, 4), (1, 2, 3, GREAT), (-GREAT, 2, 3, 4), (-MOST - 1, 2, 3, 4),
            ((1, 2), (2, 3), (3, 4), (4, 5)),
        ]
        for value in wrong + OTHER_KINDS + INTEGERS + NO_BAGS + NO_FAMILIES + FAMILIES:
            for function in self.CALLS:
                check_error(self, BadPrices, function, FAMILY, value)
            for shown in (None, (1, 3), ()):
                check_error(self, BadPrices, shows_apart, FAMILY, value, shown)

    def test_weights_below_0(self):
        for value in ((-1, 2, 3, 4), (1, 2, 3, -1), (-MOST,) * 4, (0, 0, -1, 0)):
            for function in self.CALLS[:-1]:
                check_error(self, BadPrices, function, FAMILY, value)
            check_error(self, BadPrices, shows_apart, FAMILY, value, (3,))
            self.assertIs(type(heaviest_joined(FAMILY, value)), int)

    def test_the_limits(self):
        self.assertEqual(heaviest_apart(FAMILY, (MOST, 0, 0, MOST)), (2 * MOST, (0, 3)))
        self.assertEqual(heaviest_joined(FAMILY, (MOST, 0, -MOST, MOST)), MOST)
        for function in self.CALLS:
            check_error(self, BadPrices, function, FAMILY, (MOST + 1, 0, 0, MOST))

    def test_the_family_comes_first(self):
        for weights in (WEIGHTS, None, [], (1,), (-1,)):
            for function in self.CALLS:
                for value in NO_BAGS[::9]:
                    check_error(self, BadBags, function, value, weights)
                for value in NO_FAMILIES[::4]:
                    check_error(self, BadFamily, function, value, weights)


if __name__ == "__main__":
    unittest.main()
