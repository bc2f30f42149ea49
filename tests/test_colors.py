"""Point 16: colorings of the beads and their numbers."""

import random
import unittest
from itertools import combinations, product
from math import comb, factorial

from sharebags.colors import alike_pairs, coloring_at, coloring_number, fewest_colors
from sharebags.colors import not_alike, shows_coloring, unlike
from sharebags.errors import BadBags, BadFamily, BadNumber
from tests import naive
from tests.calls import check_error
from tests.samples import HALVES, LAST_STAR, PATH, STAR, WHOLE, random_family, size_of
from tests.wrong import FAMILIES, GREAT, INTEGERS, NO_BAGS, NO_FAMILIES, OTHER_KINDS

SMALL = [family for size in range(2, 5) for family in naive.families(size)] + list(naive.families(5)[::5])
RANDOM = [random_family(random.Random(seed), size) for seed in range(8) for size in (7, 11, 60)]
BIG = [PATH, STAR, LAST_STAR, WHOLE, HALVES]
FAMILY = ((0, 1, 2), (2, 3))


def is_unlike(family, colors):
    """Whether no two beads of a bag are alike."""
    return all(colors[one] != colors[other] for bag in family for one, other in combinations(bag, 2))


def beads_in_order(family):
    """The pairs (bead, beads of its bag that came ahead of it) in the order of the document."""
    order, met = [(0, ())], {0}
    for bead, _ in order:
        for bag in family:
            if bead in bag:
                ahead = (bead,)
                for other in bag:
                    if other != bead and other not in met:
                        order.append((other, ahead))
                        met.add(other)
                        ahead += (other,)
    return order


def place(family, many, value):
    """What unlike colorings are ordered by."""
    found = []
    for bead, ahead in beads_in_order(family):
        free = [color for color in range(many) if color not in [value[other] for other in ahead]]
        found.append(free.index(value[bead]))
    return tuple(found)


def lower(many, count):
    """The product of so many numbers from a number on downwards."""
    found = 1
    for k in range(count):
        found *= many - k
    return found


class CountsTest(unittest.TestCase):
    def test_all_colorings(self):
        for family in SMALL:
            size = size_of(family)
            for many in range(1, 5 if size < 5 else 4):
                rows = list(product(range(many), repeat=size))
                expected = len([row for row in rows if is_unlike(family, row)])
                self.assertEqual(unlike(family, many), expected)
                self.assertEqual(expected > 0, many >= fewest_colors(family))
                mixed = [row for row in rows if all(len({row[bead] for bead in bag}) > 1 for bag in family)]
                self.assertEqual(not_alike(family, many), len(mixed))
                for row in rows:
                    pairs = sum(row[one] == row[other] for bag in family for one, other in combinations(bag, 2))
                    self.assertEqual(alike_pairs(family, row), pairs)
                    self.assertIs(shows_coloring(family, many, row), is_unlike(family, row))

    def test_sixty_beads(self):
        self.assertEqual([unlike(PATH, k) for k in (1, 2, 60)], [0, 2, 60 * 59 ** 59])
        self.assertEqual([unlike(STAR, k) for k in (1, 2, 60)], [0, 2, 60 * 59 ** 59])
        self.assertEqual([unlike(WHOLE, k) for k in (1, 2, 59, 60)], [0, 0, 0, factorial(60)])
        self.assertEqual([unlike(HALVES, k) for k in (30, 31, 60)], [0, factorial(31) * factorial(30), lower(60, 30) * lower(59, 30)])
        self.assertEqual([fewest_colors(family) for family in BIG], [2, 2, 2, 60, 31])
        self.assertEqual([not_alike(family, 1) for family in BIG], [0] * 5)
        self.assertEqual([not_alike(PATH, 60), not_alike(STAR, 2)], [60 * 59 ** 59, 2])
        self.assertEqual([not_alike(WHOLE, 2), not_alike(WHOLE, 60)], [2 ** 60 - 2, 60 ** 60 - 60])
        self.assertEqual(not_alike(HALVES, 3), 3 * (3 ** 29 - 1) * (3 ** 30 - 1))
        self.assertEqual([alike_pairs(family, (59,) * 60) for family in BIG], [59, 59, 59, 1770, comb(30, 2) + comb(31, 2)])
        self.assertEqual([alike_pairs(family, tuple(range(60))) for family in BIG], [0] * 5)
        self.assertEqual(alike_pairs(PATH, tuple(k // 2 for k in range(60))), 30)

    def test_few_colors_and_many(self):
        for family in FAMILIES:
            for many in (0, 61, -1, GREAT, True, None, "3", (3,)):
                for function in (unlike, not_alike):
                    check_error(self, BadNumber, function, family, many)
            expected = 60
            for bag in family:
                expected *= lower(59, len(bag) - 1)
            self.assertEqual(unlike(family, 60), expected)
            self.assertEqual(unlike(family, 1), 0)


class NumbersTest(unittest.TestCase):
    def test_small_families(self):
        for family in SMALL:
            size = size_of(family)
            for many in range(1, 5 if size < 5 else 4):
                rows = [row for row in product(range(many), repeat=size) if is_unlike(family, row)]
                ordered = sorted(rows, key=lambda row: place(family, many, row))
                for index, row in enumerate(ordered):
                    self.assertEqual(coloring_at(family, many, index), row)
                    self.assertEqual(coloring_number(family, many, row), index)
                for index in (-1, len(ordered), len(ordered) + 1, GREAT):
                    check_error(self, BadNumber, coloring_at, family, many, index)
                for row in product(range(many), repeat=size):
                    if not is_unlike(family, row):
                        check_error(self, BadNumber, coloring_number, family, many, row)

    def test_beads_behind_one_another(self):
        # The order is 0, 3, 5, then 2 of bead 3, 4 of bead 5, then 1 of bead 2.
        family = ((0, 3), (0, 5), (1, 2), (2, 3), (4, 5))
        self.assertEqual([bead for bead, _ in beads_in_order(family)], [0, 3, 5, 2, 4, 1])
        self.assertEqual([coloring_at(family, 3, index) for index in (0, 1, 2, 4, 8)], [
            (0, 1, 0, 1, 0, 1), (0, 2, 0, 1, 0, 1), (0, 1, 0, 1, 2, 1), (0, 0, 2, 1, 0, 1), (0, 1, 0, 1, 0, 2),
        ])
        self.assertEqual([coloring_at(family, 3, index) for index in (16, 32)], [(0, 1, 0, 2, 0, 1), (1, 0, 1, 0, 1, 0)])

    def test_beads_of_a_bag_ascending_but_for_its_stem(self):
        # The stem of the second bag is its greatest bead, which comes ahead of the others.
        family = ((0, 3), (1, 2, 3))
        self.assertEqual([coloring_at(family, 3, index) for index in range(6)], [
            (0, 0, 2, 1), (0, 2, 0, 1), (0, 0, 1, 2), (0, 1, 0, 2), (1, 1, 2, 0), (1, 2, 1, 0),
        ])

    def test_the_first_and_the_last_one(self):
        for family in FAMILIES + RANDOM + BIG:
            least = fewest_colors(family)
            for many in {least, min(least + 1, 60), 60}:
                last = unlike(family, many) - 1
                first, end = coloring_at(family, many, 0), coloring_at(family, many, last)
                self.assertEqual(place(family, many, first), (0,) * size_of(family))
                self.assertEqual(end, tuple(many - 1 - color for color in first))
                for index, value in ((0, first), (last, end)):
                    self.assertEqual(coloring_number(family, many, value), index)
                    self.assertIs(shows_coloring(family, many, value), True)
                for index in (-1, last + 1, last + 2):
                    check_error(self, BadNumber, coloring_at, family, many, index)
            for many in {1, least - 1}:
                for index in (0, 1, -1):
                    check_error(self, BadNumber, coloring_at, family, many, index)
                check_error(self, BadNumber, coloring_number, family, many, coloring_at(family, least, 0))

    def test_sixty_beads(self):
        self.assertEqual(coloring_at(WHOLE, 60, 0), tuple(range(60)))
        self.assertEqual(coloring_at(WHOLE, 60, factorial(60) - 1), tuple(range(59, -1, -1)))
        self.assertEqual(coloring_at(WHOLE, 60, 1), (*range(58), 59, 58))
        self.assertEqual(coloring_number(WHOLE, 60, (1, 0, *range(2, 60))), factorial(59))
        self.assertEqual([coloring_at(PATH, 2, 0), coloring_at(PATH, 2, 1)], [(0, 1) * 30, (1, 0) * 30])
        self.assertEqual([coloring_at(STAR, 3, 0), coloring_at(STAR, 3, 1)], [(0,) + (1,) * 59, (0,) + (1,) * 58 + (2,)])
        self.assertEqual(coloring_number(STAR, 3, (2,) + (0,) * 59), 2 ** 60)

    def test_there_and_back(self):
        source = random.Random(9)
        for family in RANDOM + BIG:
            for many in {fewest_colors(family), 60}:
                for index in [source.randrange(unlike(family, many)) for _ in range(4)]:
                    value = coloring_at(family, many, index)
                    self.assertTrue(is_unlike(family, value) and set(value) <= set(range(many)))
                    self.assertEqual(coloring_number(family, many, value), index)
                    if index + 1 < unlike(family, many):
                        behind = coloring_at(family, many, index + 1)
                        self.assertLess(place(family, many, value), place(family, many, behind))

    def test_two_beads(self):
        family = ((0, 1),)
        self.assertEqual([coloring_at(family, 2, index) for index in range(2)], [(0, 1), (1, 0)])
        self.assertEqual([unlike(family, 2), not_alike(family, 2), fewest_colors(family)], [2, 2, 2])
        self.assertEqual([alike_pairs(family, (5, 5)), alike_pairs(family, (0, 59))], [1, 0])


NO_COLORINGS = [
    [0, 1, 2, 1], ([0, 1, 2, 1],), ((0, 1, 2, 1),), (0, 1, 2), (0, 1, 2, 1, 0), (), (0, True, 2, 1), (False, 1, 2, 1),
    (0, 1, 2, True), (0, 1, 2, None), (0, 1, 2, "1"), "0121", (0, 1, 2, (1,)), (0, [1], 2, 1), (0, {}, 2, 1), (-1, 1, 2, 1),
    (0, 1, 2, -1), (0, 1, 2, GREAT), {0: 0, 1: 1, 2: 2, 3: 1}, (0, 1, 2, 60), (60, 1, 2, 1), (0, 1), (0, (1, 2), 1, 0),
] + OTHER_KINDS + INTEGERS + NO_BAGS + NO_FAMILIES + FAMILIES


class WrongColoringsTest(unittest.TestCase):
    def test_no_colorings_at_all(self):
        for value in NO_COLORINGS:
            check_error(self, BadNumber, alike_pairs, FAMILY, value)
            for many in (3, 60):
                check_error(self, BadNumber, coloring_number, FAMILY, many, value)
                self.assertIs(shows_coloring(FAMILY, many, value), False)

    def test_colorings_that_are_not_unlike_or_have_other_colors(self):
        self.assertEqual(coloring_number(FAMILY, 3, (0, 1, 2, 1)), 1)
        for value in [(0, 0, 1, 2), (0, 1, 1, 2), (0, 1, 0, 2), (0, 1, 2, 2), (0, 1, 2, 3), (3, 1, 2, 0), (0, 1, 3, 0), (0, 0, 0, 0)]:
            check_error(self, BadNumber, coloring_number, FAMILY, 3, value)
            self.assertIs(shows_coloring(FAMILY, 3, value), False)
            self.assertIs(type(alike_pairs(FAMILY, value)), int)
        self.assertIs(shows_coloring(FAMILY, 4, (0, 1, 2, 3)), True)
        self.assertIs(shows_coloring(FAMILY, 2, (0, 1, 2, 1)), False)
        self.assertIs(shows_coloring(FAMILY, 60, (59, 58, 57, 59)), True)

    def test_shows_coloring_raises_for_the_others_alone(self):
        for value in (None, (0, 1, 2, 1), [], (0, 0, 0, 0)):
            for many in (0, 61, -1, True, False, None, "3", (3,), [3], GREAT, -GREAT):
                check_error(self, BadNumber, shows_coloring, FAMILY, many, value)
            for family in NO_BAGS[::5]:
                check_error(self, BadBags, shows_coloring, family, None, value)
            for family in NO_FAMILIES[::3]:
                check_error(self, BadFamily, shows_coloring, family, 0, value)

    def test_the_greatest_color_of_alike_pairs(self):
        self.assertEqual(alike_pairs(FAMILY, (59, 59, 59, 59)), 4)
        self.assertEqual(alike_pairs(FAMILY, (0, 59, 0, 0)), 2)


if __name__ == "__main__":
    unittest.main()
