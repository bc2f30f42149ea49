"""Points 5, 6 and 8: shortest ways told by their families, coarser, finer and between, numbers of families."""

import unittest
from functools import lru_cache
from itertools import product
from math import comb, factorial, prod

from sharebags.counts import between, between_tally, coarser, coarser_tally
from sharebags.counts import count_between, count_coarser, count_finer, count_ways
from sharebags.counts import families, mobius, steps_up, tally, ways
from sharebags.errors import BadNumber, NotCoarser, OtherBeads, TooMany
from tests import naive
from tests.naive import bell, parted_in
from tests.samples import HALVES, PATH, STAR, WHOLE, size_of
from tests.wrong import FAMILIES, GREAT, OTHER_KINDS

SMALL = [family for size in range(2, 6) for family in naive.families(size)]
TRIPLES = tuple((k, k + 1, k + 2) for k in range(0, 58, 2)) + ((58, 59),)


def star(bead, last):
    """Pairs of a bead with each one behind it up to the last one."""
    return [(bead, other) for other in range(bead + 1, last + 1)]


def with_centers(*degrees):
    """A family of pairs in which beads with these degrees stand one behind another, all others at an end."""
    pairs, bead = [], 0
    for degree in degrees:
        more = degree - (1 if bead else 0)
        pairs += star(bead, bead + more)
        bead += more
    return tuple(sorted(pairs))


def finer_pairs(step):
    """Pairs of a family and a finer one: of 2 to 4 beads all, of 5 beads some."""
    for size in range(2, 6):
        for fine in naive.families(size)[:: step if size == 5 else 1]:
            for coarse in sorted(naive.coarser(fine)):
                yield coarse, fine


@lru_cache(maxsize=None)
def chains(coarse, fine):
    """The ascending list of the ways of single pourings from fine to coarse."""
    if coarse == fine:
        return [(fine,)]
    return sorted(
        (fine, *steps)
        for family in naive.poured(fine)
        if coarse in naive.coarser(family)
        for steps in chains(coarse, family)
    )


@lru_cache(maxsize=None)
def order_mobius(coarse, fine):
    """The Moebius function of the order of families, by its definition."""
    if coarse == fine:
        return 1
    middle = [family for family in naive.coarser(fine) if coarse in naive.coarser(family) and family != coarse]
    return -sum(order_mobius(family, fine) for family in middle)


class WaysTest(unittest.TestCase):
    def test_small_families(self):
        for coarse, fine in finer_pairs(17):
            expected = chains(coarse, fine)
            self.assertEqual(count_ways(coarse, fine), len(expected))
            self.assertEqual(ways(coarse, fine), expected)

    def test_they_are_all_shortest_ways(self):
        for coarse, fine in [(((0, 1, 2, 3),), ((0, 1), (1, 2), (2, 3))), (((0, 1, 2), (2, 3)), ((0, 1), (1, 2), (2, 3)))]:
            reached = [[fine]]
            for _ in range(naive.distances(fine)[coarse]):
                reached = [
                    steps + [family] for steps in reached
                    for family in naive.poured(steps[-1]) + naive.parted(steps[-1])
                ]
            expected = sorted(tuple(steps) for steps in reached if steps[-1] == coarse)
            self.assertEqual(ways(coarse, fine), expected)

    def test_a_family_and_itself(self):
        for family in FAMILIES + [HALVES, TRIPLES]:
            self.assertEqual(count_ways(family, family), 1)
            self.assertEqual(ways(family, family), [(family,)])

    def test_steps_up(self):
        for family in SMALL:
            whole = (tuple(range(size_of(family))),)
            self.assertEqual(steps_up(family), len(chains(whole, family)))
        self.assertEqual(steps_up(((0, 1),)), 1)

    def test_sixty_beads(self):
        self.assertEqual(steps_up(WHOLE), 1)
        # Along a path any order of the beads that are poured through is one way.
        self.assertEqual(steps_up(PATH), factorial(58))
        self.assertEqual(count_ways(WHOLE, PATH), factorial(58))
        # In a star any two parts of the bags may be poured together next.
        self.assertEqual(steps_up(STAR), prod(comb(k, 2) for k in range(2, 60)))
        self.assertEqual(count_ways(WHOLE, STAR), steps_up(STAR))
        self.assertEqual(count_ways(WHOLE, HALVES), 1)
        self.assertEqual(count_ways(HALVES, PATH), factorial(57))
        self.assertEqual(count_ways(TRIPLES, PATH), factorial(29))
        self.assertEqual(count_ways(WHOLE, TRIPLES), factorial(29))
        self.assertEqual(ways(WHOLE, HALVES), [(HALVES, WHOLE)])
        one_less = PATH[:57] + ((57, 58, 59),)
        self.assertEqual(ways(one_less, PATH), [(PATH, one_less)])
        two_less = ((0, 1, 2),) + PATH[2:57] + ((57, 58, 59),)
        first = ((0, 1, 2),) + PATH[2:]
        self.assertEqual(ways(two_less, PATH), sorted([(PATH, first, two_less), (PATH, one_less, two_less)]))

    def test_greatest_lists(self):
        # No other numbers of ways stand between these.
        family = with_centers(4, 2, 2)
        whole = (tuple(range(len(family) + 1)),)
        self.assertEqual(count_ways(whole, family), 360)
        found = ways(whole, family)
        self.assertEqual(found, chains(whole, family))
        self.assertEqual(len(found), 360)
        family = with_centers(4, 3)
        whole = (tuple(range(len(family) + 1)),)
        self.assertEqual(count_ways(whole, family), 540)
        with self.assertRaises(TooMany) as caught:
            ways(whole, family)
        self.assertEqual(caught.exception.most, 500)
        for fine in (PATH, STAR, TRIPLES):
            with self.assertRaises(TooMany):
                ways(WHOLE, fine)


class CoarserTest(unittest.TestCase):
    def test_small_families(self):
        for family in SMALL:
            found = naive.coarser(family)
            self.assertEqual(coarser(family), sorted(found))
            self.assertEqual(count_coarser(family), len(found))
            expected = tuple(len([f for f in found if len(f) == bags]) for bags in range(1, len(family) + 1))
            self.assertEqual(coarser_tally(family), expected)

    def test_count_finer(self):
        for size in range(2, 6):
            for family in naive.families(size):
                found = [finer for finer in naive.families(size) if family in naive.coarser(finer)]
                self.assertEqual(count_finer(family), len(found))

    def test_sixty_beads(self):
        self.assertEqual((count_coarser(WHOLE), coarser(WHOLE), coarser_tally(WHOLE)), (1, [WHOLE], (1,)))
        self.assertEqual(count_coarser(PATH), 2 ** 58)
        self.assertEqual(coarser_tally(PATH), tuple(comb(58, k) for k in range(59)))
        self.assertEqual(count_coarser(STAR), bell(59))
        self.assertEqual(coarser_tally(STAR), tuple(parted_in(59, k) for k in range(1, 60)))
        self.assertEqual(coarser(HALVES), sorted([HALVES, WHOLE]))
        self.assertEqual((count_finer(PATH), count_finer(STAR)), (1, 1))
        self.assertEqual(count_finer(WHOLE), sum(60 ** (k - 1) * parted_in(59, k) for k in range(1, 60)))
        self.assertEqual(count_finer(TRIPLES), 4 ** 29)
        self.assertEqual(count_finer(HALVES), families(30) * families(31))

    def test_greatest_lists(self):
        # 500 = 2 * 2 * 5 * 5 * 5; the next number of coarser families is 512.
        family = with_centers(2, 3, 2, 3, 3)
        self.assertEqual(count_coarser(family), 500)
        self.assertEqual(coarser(family), sorted(naive.coarser(family)))
        self.assertEqual(len(set(coarser(family))), 500)
        for family in (with_centers(*[2] * 9), PATH, STAR):
            with self.assertRaises(TooMany) as caught:
                coarser(family)
            self.assertEqual(caught.exception.most, 500)
        self.assertEqual(count_coarser(with_centers(*[2] * 9)), 512)


class BetweenTest(unittest.TestCase):
    def test_small_families(self):
        for coarse, fine in finer_pairs(11):
            found = sorted(family for family in naive.coarser(fine) if coarse in naive.coarser(family))
            self.assertEqual(between(coarse, fine), found)
            self.assertEqual(count_between(coarse, fine), len(found))
            numbers = sorted({len(family) for family in found})
            expected = tuple((bags, len([f for f in found if len(f) == bags])) for bags in numbers)
            self.assertEqual(between_tally(coarse, fine), expected)

    def test_a_family_and_itself(self):
        for family in FAMILIES + [HALVES, TRIPLES]:
            self.assertEqual(count_between(family, family), 1)
            self.assertEqual(between(family, family), [family])
            self.assertEqual(between_tally(family, family), ((len(family), 1),))
            self.assertEqual(mobius(family, family), 1)

    def test_sixty_beads(self):
        self.assertEqual(count_between(WHOLE, PATH), 2 ** 58)
        self.assertEqual(count_between(HALVES, PATH), 2 ** 57)
        self.assertEqual(count_between(TRIPLES, PATH), 2 ** 29)
        self.assertEqual(count_between(WHOLE, STAR), bell(59))
        self.assertEqual(between(WHOLE, HALVES), sorted([HALVES, WHOLE]))
        self.assertEqual(between_tally(TRIPLES, PATH), tuple((30 + k, comb(29, k)) for k in range(30)))
        stars = (tuple(range(31)), (0, *range(31, 60)))
        self.assertEqual(count_between(stars, STAR), bell(30) * bell(29))
        expected = {}
        for one, other in product(range(1, 31), range(1, 30)):
            expected[one + other] = expected.get(one + other, 0) + parted_in(30, one) * parted_in(29, other)
        self.assertEqual(between_tally(stars, STAR), tuple(sorted(expected.items())))

    def test_greatest_lists(self):
        # 500 families between: the centers lie in one bag, behind which a path of 40 pairs goes on.
        family = with_centers(2, 3, 2, 3, 3)
        size = len(family) + 1
        tail = tuple((k, k + 1) for k in range(size - 1, 59))
        fine, coarse = family + tail, (tuple(range(size)),) + tail
        self.assertEqual(count_between(coarse, fine), 500)
        self.assertEqual(between(coarse, fine), sorted(found + tail for found in naive.coarser(family)))
        coarse = (tuple(range(size + 1)),) + tail[1:]
        self.assertEqual(count_between(coarse, fine), 1000)
        family = with_centers(*[2] * 9)
        for coarse, fine in [(coarse, fine), ((tuple(range(11)),), family), (WHOLE, PATH), (HALVES, PATH)]:
            with self.assertRaises(TooMany) as caught:
                between(coarse, fine)
            self.assertEqual(caught.exception.most, 500)

    def test_mobius(self):
        for coarse, fine in finer_pairs(5):
            expected = 1
            for whole in coarse:
                for bead in range(max(map(max, coarse)) + 1):
                    degree = len([bag for bag in fine if bead in bag and set(bag) <= set(whole)])
                    if degree:
                        expected *= factorial(degree - 1) * (-1 if degree % 2 == 0 else 1)
            self.assertEqual(mobius(coarse, fine), expected)
            self.assertEqual(expected, order_mobius(coarse, fine))

    def test_mobius_of_sixty_beads(self):
        self.assertEqual(mobius(WHOLE, STAR), factorial(58))
        self.assertEqual(mobius(WHOLE, PATH), 1)
        self.assertEqual(mobius(HALVES, PATH), -1)
        self.assertEqual(mobius(WHOLE, HALVES), -1)
        self.assertEqual(mobius(TRIPLES, PATH), -1)
        stars = (tuple(range(31)), (0, *range(31, 60)))
        self.assertEqual(mobius(stars, STAR), -factorial(29) * factorial(28))


class OrderOfErrorsTest(unittest.TestCase):
    CALLS = [count_ways, ways, count_between, between, between_tally, mobius]

    def test_other_beads(self):
        for one, other in product(FAMILIES, repeat=2):
            if max(map(max, one)) != max(map(max, other)):
                for call in self.CALLS:
                    with self.assertRaises(OtherBeads):
                        call(one, other)

    def test_not_coarser_for_all_other_pairs(self):
        for size in range(2, 5):
            for coarse, fine in product(naive.families(size), repeat=2):
                if coarse not in naive.coarser(fine):
                    for call in self.CALLS:
                        with self.assertRaises(NotCoarser, msg=(coarse, fine)):
                            call(coarse, fine)

    def test_not_coarser_comes_ahead_of_too_many(self):
        for coarse, fine in [(PATH, STAR), (STAR, PATH), (PATH, WHOLE), (STAR, WHOLE), (HALVES, STAR), (TRIPLES, STAR)]:
            for call in self.CALLS:
                with self.assertRaises(NotCoarser):
                    call(coarse, fine)

    def test_other_beads_comes_ahead_of_not_coarser_and_too_many(self):
        for fine in (PATH, STAR, TRIPLES):
            shorter = (tuple(range(59)),)
            for call in self.CALLS:
                with self.assertRaises(OtherBeads):
                    call(shorter, fine)
                with self.assertRaises(OtherBeads):
                    call(fine, shorter)


class NumbersOfFamiliesTest(unittest.TestCase):
    def test_few_beads(self):
        for size in range(2, 6):
            found = naive.families(size)
            self.assertEqual(families(size), len(found))
            expected = tuple(len([f for f in found if len(f) == bags]) for bags in range(1, size))
            self.assertEqual(tally(size), expected)

    def test_known_numbers(self):
        self.assertEqual([families(size) for size in range(2, 10)], [1, 4, 29, 311, 4447, 79745, 1722681, 43578820])
        self.assertEqual((tally(2), tally(3)), ((1,), (1, 3)))

    def test_all_numbers_of_beads(self):
        for size in range(2, 201):
            expected = tuple(size ** (bags - 1) * parted_in(size - 1, bags) for bags in range(1, size))
            self.assertEqual(tally(size), expected)
            self.assertEqual(families(size), sum(expected))
        # Families of pairs are trees.
        self.assertEqual(tally(200)[-1], 200 ** 198)

    def test_other_values(self):
        for value in OTHER_KINDS + [(), (3,), ((0, 1),), -GREAT, -2, -1, 0, 1, 201, 202, 500, GREAT]:
            for call in (families, tally):
                with self.assertRaises(BadNumber, msg=value):
                    call(value)


if __name__ == "__main__":
    unittest.main()
