"""Point 20: several families with as many beads."""

import random
import unittest
from itertools import product

from sharebags.errors import BadBags, BadBead, BadFamily, BadNumber, OtherBeads
from sharebags.many import coarsest_of, common_coarser, common_finer, distances, middle_of
from sharebags.many import nearest_of, round_trip, together_counts, widest_pair
from sharebags.orders import distance, is_coarser, least_coarser
from tests import naive
from tests.calls import check_error
from tests.samples import HALVES, LAST_STAR, PATH, STAR, WHOLE, random_family, size_of
from tests.wrong import FAMILIES, GREAT, INTEGERS, NO_BAGS, NO_FAMILIES, OTHER_KINDS

BIG = (PATH, STAR, LAST_STAR, WHOLE, HALVES)
TWENTY = tuple(random_family(random.Random(seed), 60) for seed in range(20))
ONE, OTHER, ALL = ((0, 1), (1, 2)), ((0, 2), (1, 2)), ((0, 1, 2),)
FAMILY = ((0, 1), (1, 2, 3), (3, 4))
ALONE = [common_coarser, common_finer, distances, widest_pair, middle_of, coarsest_of, round_trip]


def some_families(source, many, most):
    """Tuples of 1 to most families of 2 to 5 beads."""
    for _ in range(many):
        size = source.choice((2, 3, 4, 4, 5, 5))
        yield tuple(source.choice(naive.families(size)) for _ in range(source.randint(1, most)))


def near_families(source, many):
    """Tuples of families that are coarser than one family, and of some finer than it."""
    for _ in range(many):
        low = source.choice(naive.families(source.choice((4, 5))))
        yield tuple(source.choice(sorted(naive.coarser(low))) for _ in range(source.randint(2, 4)))


class ManyTest(unittest.TestCase):
    def check_all(self, value):
        """Check the answers for a tuple of families of few beads."""
        size = size_of(value[0])
        above = frozenset.intersection(*[naive.coarser(family) for family in value])
        self.assertEqual(common_coarser(value), next(family for family in above if above <= naive.coarser(family)))
        below = [family for family in naive.families(size) if set(value) <= naive.coarser(family)]
        expected = [family for family in below if all(family in naive.coarser(finer) for finer in below)]
        self.assertEqual(common_finer(value), expected[0] if below else None)
        self.assertEqual(len(expected), 1 if below else 0)
        rows = tuple(tuple(naive.distances(one)[other] for other in value) for one in value)
        self.check_rows(value, rows)
        for family in naive.families(size)[::17]:
            near = [naive.distances(family)[other] for other in value]
            self.assertEqual(nearest_of(family, value), (min(near), near.index(min(near))))
        lower = [[other for other in value if other != family and other in naive.coarser(family)] for family in value]
        self.assertEqual(coarsest_of(value), tuple(k for k in range(len(value)) if not lower[k]))
        self.check_counts(value)

    def check_rows(self, value, rows):
        """Check what follows from the distances of families."""
        self.assertEqual(distances(value), rows)
        widest, first, second = widest_pair(value)
        self.assertEqual(widest, max(map(max, rows)))
        places = [(j, i) for j in range(len(value)) for i in range(j + 1) if rows[i][j] == widest]
        self.assertEqual((second, first), places[0])
        sums = [sum(row) for row in rows]
        self.assertEqual(middle_of(value), (min(sums), sums.index(min(sums))))
        trip = [rows[k][k + 1] for k in range(len(value) - 1)] + [rows[-1][0]]
        self.assertEqual(round_trip(value), sum(trip))

    def check_counts(self, value):
        """Check how often beads share a bag."""
        size = size_of(value[0])
        for one in range(size):
            expected = [sum(any({one, bead} <= set(bag) for bag in family) for family in value) for bead in range(size)]
            self.assertEqual(together_counts(value, one), tuple(expected))
            self.assertEqual(together_counts(value, one)[one], len(value))

    def test_families_of_few_beads(self):
        for size in (2, 3):
            for many in (1, 2, 3):
                for value in product(naive.families(size), repeat=many):
                    self.check_all(value)
        for value in some_families(random.Random(1), 150, 5):
            self.check_all(value)
        for value in near_families(random.Random(2), 60):
            self.check_all(value)

    def test_all_pairs_of_four_beads(self):
        for value in product(naive.families(4), repeat=2):
            self.assertEqual(common_coarser(value), naive.least_coarser(*value))
            self.assertEqual(common_finer(value), naive.greatest_finer(*value, 4))
            far = naive.distances(value[0])[value[1]]
            self.assertEqual(distances(value), ((0, far), (far, 0)))
            self.assertEqual(widest_pair(value), (far, 0, 1 if far else 0))
            self.assertEqual([middle_of(value), round_trip(value)], [(far, 0), 2 * far])

    def test_one_family(self):
        for family in FAMILIES + list(BIG):
            value = (family,)
            self.assertEqual([common_coarser(value), common_finer(value)], [family, family])
            self.assertEqual([distances(value), widest_pair(value), middle_of(value)], [((0,),), (0, 0, 0), (0, 0)])
            self.assertEqual([coarsest_of(value), round_trip(value), nearest_of(family, value)], [(0,), 0, (0, 0)])
            if size_of(family) < 6:
                self.check_counts(value)

    def test_like_families(self):
        for family in FAMILIES + list(BIG):
            value = (family,) * 20
            self.assertEqual([common_coarser(value), common_finer(value)], [family, family])
            self.assertEqual(distances(value), ((0,) * 20,) * 20)
            self.assertEqual([widest_pair(value), middle_of(value), round_trip(value)], [(0, 0, 0), (0, 0), 0])
            self.assertEqual([coarsest_of(value), nearest_of(family, value)], [tuple(range(20)), (0, 0)])
        self.assertEqual(coarsest_of((ONE, ALL, OTHER, ALL, ONE)), (1, 3))
        self.assertEqual(coarsest_of((ONE, OTHER, ONE)), (0, 1, 2))
        self.assertEqual(widest_pair((ONE, ONE, OTHER, OTHER, ALL)), (2, 0, 2))
        self.assertEqual(widest_pair((ALL, ONE, OTHER, ONE)), (2, 1, 2))
        self.assertEqual([middle_of((ONE, OTHER, OTHER)), nearest_of(OTHER, (ONE, OTHER, OTHER))], [(2, 1), (0, 1)])

    def test_none_is_finer(self):
        self.assertIsNone(common_finer((ONE, OTHER)))
        self.assertIsNone(common_finer((ALL, ONE, OTHER, ALL)))
        self.assertIsNone(common_finer((ONE, OTHER, ONE)))
        # Any two of these have a family finer than both, all three have none.
        three = (((0, 1, 2), (2, 3)), ((0, 1, 3), (0, 2)), ((0, 1), (1, 2, 3)))
        self.assertIsNone(common_finer(three))
        self.assertIsNone(common_finer((PATH, STAR)))
        self.assertIsNone(common_finer(TWENTY))

    def test_the_way_leads_in_the_order_of_the_tuple(self):
        one, other = ((0, 1), (1, 2), (2, 3)), ((0, 2), (0, 3), (1, 3))
        near, close = ((0, 1, 2), (2, 3)), ((0, 3), (0, 1, 2))
        self.assertEqual(round_trip((one, near, other, near)), 2 + 2 * naive.distances(near)[other])
        close = tuple(sorted(close))
        row = (one, close, near, other)
        turned = (one, near, close, other)
        for value in (row, turned):
            self.assertEqual(round_trip(value), sum(distance(value[k - 1], value[k]) for k in range(4)))
        self.assertEqual(round_trip((PATH, WHOLE, STAR, WHOLE)), 4 * 58)

    def test_sixty_beads(self):
        self.assertEqual(common_coarser((PATH, STAR)), WHOLE)
        self.assertEqual(common_coarser((PATH, HALVES)), HALVES)
        self.assertEqual(common_coarser((PATH, PATH, HALVES, PATH)), HALVES)
        self.assertEqual([common_coarser(BIG), common_finer(BIG)], [WHOLE, None])
        self.assertEqual([common_finer((WHOLE, HALVES, PATH)), common_finer((WHOLE, HALVES, WHOLE))], [PATH, HALVES])
        self.assertEqual(distances((WHOLE, PATH, STAR)), ((0, 58, 58), (58, 0, 116), (58, 116, 0)))
        self.assertEqual([widest_pair(BIG), middle_of(BIG)], [(116, 0, 1), (58 * 3 + 1, 3)])
        self.assertEqual([coarsest_of(BIG), coarsest_of((PATH, STAR, LAST_STAR))], [(3,), (0, 1, 2)])
        self.assertEqual(nearest_of(PATH, BIG[1:]), (57, 3))
        self.assertEqual(together_counts((PATH, STAR, WHOLE), 0), (3, 3) + (2,) * 58)

    def test_twenty_families(self):
        rows = tuple(tuple(distance(one, other) for other in TWENTY[:4]) for one in TWENTY)
        found = distances(TWENTY)
        self.assertEqual(tuple(row[:4] for row in found), rows)
        self.assertEqual(found, tuple(zip(*found)))
        self.check_rows(TWENTY, found)
        coarse = common_coarser(TWENTY)
        self.assertTrue(all(is_coarser(coarse, family) for family in TWENTY))
        expected = TWENTY[-1]
        for family in TWENTY[::-1]:
            expected = least_coarser(family, expected)
        self.assertEqual(coarse, expected)
        for one in (0, 30, 59):
            counts = [sum(any({one, bead} <= set(bag) for bag in family) for family in TWENTY) for bead in range(60)]
            self.assertEqual(together_counts(TWENTY, one), tuple(counts))
        near = [distance(PATH, family) for family in TWENTY]
        self.assertEqual(nearest_of(PATH, TWENTY), (min(near), near.index(min(near))))

    def test_common_ones_of_more_beads(self):
        source = random.Random(3)
        for size in (9, 30, 60):
            low = random_family(source, size)
            value = []
            for _ in range(20):
                coarse = low
                for _ in range(source.randint(0, min(3, len(low) - 1))):
                    coarse = source.choice(naive.poured(coarse))
                value.append(coarse)
            found = common_finer(tuple(value))
            self.assertTrue(all(is_coarser(family, found) for family in value))
            self.assertTrue(is_coarser(found, low))
            self.assertEqual(common_finer((*value[:19], low)), low)
            self.assertEqual(common_coarser((low, value[5])), value[5])


class WrongTest(unittest.TestCase):
    def check_value(self, error, value):
        """Check that a tuple of families raises an error wherever it is passed, ahead of what stands behind it."""
        for function in ALONE:
            check_error(self, error, function, value)
        for one in (0, None, -1, GREAT):
            check_error(self, error, together_counts, value, one)
        check_error(self, error, nearest_of, FAMILY, value)

    def test_no_tuple_of_one_to_twenty(self):
        for value in OTHER_KINDS + INTEGERS + [(), [FAMILY], [FAMILY, FAMILY], {FAMILY: FAMILY}, "01"]:
            self.check_value(BadNumber, value)
        for value in ((FAMILY,) * 21, (FAMILY,) * 22, (None,) * 21, (0,) * 100, ((1, 2),) * 21, BIG * 5):
            self.check_value(BadNumber, value)
        for value in ((FAMILY,), (FAMILY,) * 20):
            for function in ALONE:
                function(value)

    def test_families_in_their_order(self):
        for value in NO_BAGS:
            self.check_value(BadBags, (value,))
            self.check_value(BadBags, (FAMILY, value, FAMILY))
        for value in NO_FAMILIES:
            self.check_value(BadFamily, (value,))
            self.check_value(BadFamily, (FAMILY, FAMILY, value))
        for no_bags, no_family in product(NO_BAGS[::8], NO_FAMILIES[::5]):
            self.check_value(BadBags, (no_bags, no_family))
            self.check_value(BadFamily, (no_family, no_bags))
            self.check_value(BadFamily, (FAMILY, PATH, no_family, no_bags))
            self.check_value(BadBags, (FAMILY,) * 19 + (no_bags,))
        # A family alone is a tuple of bags, which are no families.
        for value in FAMILIES:
            if len(value) <= 20:
                self.check_value(BadBags, value)

    def test_other_beads(self):
        for value in ((FAMILY, ONE), (ONE, OTHER, FAMILY), (PATH, FAMILY), (FAMILY,) * 19 + (PATH,), (FAMILY, PATH, FAMILY)):
            for function in ALONE:
                check_error(self, OtherBeads, function, value)
            check_error(self, OtherBeads, together_counts, value, 0)
            check_error(self, OtherBeads, nearest_of, value[0], value)
            check_error(self, OtherBeads, nearest_of, value[-1], value)
        check_error(self, OtherBeads, nearest_of, FAMILY, (ONE, OTHER))
        check_error(self, OtherBeads, nearest_of, ONE, (FAMILY, FAMILY))

    def test_beads_of_the_first_family(self):
        for value in OTHER_KINDS + [-1, -5, 5, 6, 59, 60, GREAT, (), (0,), FAMILY]:
            for families in ((FAMILY,), (FAMILY,) * 20, (FAMILY, PATH), (FAMILY, ONE)):
                check_error(self, BadBead, together_counts, families, value)
        # Bead 4 is one of the first family alone.
        check_error(self, OtherBeads, together_counts, (FAMILY, ONE), 4)
        check_error(self, BadBead, together_counts, (ONE, FAMILY), 4)
        check_error(self, OtherBeads, together_counts, (PATH, FAMILY), 59)

    def test_the_family_comes_first(self):
        for value in ((FAMILY,), (), None, [], (None,), (NO_FAMILIES[0],), (FAMILY,) * 21, (ONE,)):
            for family in NO_BAGS[::3]:
                check_error(self, BadBags, nearest_of, family, value)
            for family in NO_FAMILIES[::3]:
                check_error(self, BadFamily, nearest_of, family, value)


if __name__ == "__main__":
    unittest.main()
