"""Point 1: wrong values for every argument, the order of errors, arguments left as they are, new lists."""

import unittest
from copy import deepcopy
from itertools import product

from sharebags import bags, orders
from sharebags.errors import BadBags, BadFamily, BadNumber, BadPart, BadPour, OtherBeads, TooMany
from tests.calls import check_error, check_lists_are_new
from tests.wrong import FAMILIES, GREAT, NO_BAGS, NO_FAMILIES, OTHER_KINDS

ONE_FAMILY = [
    bags.beads, bags.degrees, bags.sizes, bags.pours, bags.poured, bags.parted, bags.moves, orders.rank,
]
TWO_FAMILIES = [
    orders.is_coarser, orders.least_coarser, orders.greatest_finer, orders.distance, orders.way,
]
FAMILY = ((0, 1), (1, 2), (2, 3))
OTHER_SIZE = ((0, 1, 2),)

# Some wrong values of each kind, to be taken several at once.
SOME_NO_BAGS = [None, True, -1, GREAT, "0.1", [(0, 1)], (), ((0,),), ([0, 1],), ((0, True),), ((0, 60),), ((1, 0),), {}]
SOME_NO_FAMILIES = [((1, 2),), ((0, 1), (2, 3)), ((0, 1), (0, 1, 2)), ((0, 1), (0, 2), (1, 2))]
SOME_WRONG = [None, True, False, -1, 59, GREAT, "0", [], [0], (), {}, (0,), ((0, 1),)]


def shows_a_way(one, other):
    return orders.shows_way(one, other, [one, other])


def shows_nothing(one, other):
    return orders.shows_way(one, other, None)


class WrongTest(unittest.TestCase):
    def check(self, error, function, *arguments):
        """Check that a call raises just this error and leaves its arguments as they are."""
        check_error(self, error, function, *arguments)

    def test_one_family(self):
        for function in ONE_FAMILY:
            for value in NO_BAGS:
                self.check(BadBags, function, value)
            for value in NO_FAMILIES:
                self.check(BadFamily, function, value)

    def test_two_families(self):
        for function in TWO_FAMILIES + [shows_a_way, shows_nothing]:
            for value in NO_BAGS:
                self.check(BadBags, function, value, FAMILY)
                self.check(BadBags, function, FAMILY, value)
                self.check(BadBags, function, value, value)
            for value in NO_FAMILIES:
                self.check(BadFamily, function, value, FAMILY)
                self.check(BadFamily, function, FAMILY, value)
                self.check(BadFamily, function, value, value)

    def test_the_leftmost_of_two_families_comes_first(self):
        for function in TWO_FAMILIES + [shows_a_way, shows_nothing]:
            for no_bags, no_family in product(SOME_NO_BAGS, SOME_NO_FAMILIES):
                self.check(BadBags, function, no_bags, no_family)
                self.check(BadFamily, function, no_family, no_bags)
                self.check(BadBags, function, no_bags, OTHER_SIZE)
                self.check(BadFamily, function, OTHER_SIZE, no_family)
            self.check(OtherBeads, function, FAMILY, OTHER_SIZE)
            self.check(OtherBeads, function, OTHER_SIZE, FAMILY)

    def test_bags_that_bar_two_things_at_once(self):
        # Not ascending, and no family either: BadBags is named first.
        for value in [((1, 2), (0, 1), (0, 2)), ((2, 3), (0, 1)), ((3, 1),), ((0, 1), (0, 1)), ((1, 60),)]:
            for function in ONE_FAMILY:
                self.check(BadBags, function, value)

    def test_pour(self):
        for value in SOME_WRONG:
            self.check(BadPour, bags.pour, FAMILY, value, 1)
            self.check(BadPour, bags.pour, FAMILY, 1, value)
            for other in SOME_WRONG:
                self.check(BadPour, bags.pour, FAMILY, value, other)
        for one, other in product(SOME_WRONG + [0, 1], repeat=2):
            for value in SOME_NO_BAGS:
                self.check(BadBags, bags.pour, value, one, other)
            for value in SOME_NO_FAMILIES:
                self.check(BadFamily, bags.pour, value, one, other)
        for value in NO_BAGS:
            self.check(BadBags, bags.pour, value, 0, 1)
        for value in NO_FAMILIES:
            self.check(BadFamily, bags.pour, value, 0, 1)

    def test_part(self):
        family = ((0, 1, 2), (2, 3))
        self.assertEqual(bags.part(family, 0, 0, (1,)), ((0, 1), (0, 2), (2, 3)))
        for index, bead, side in product(SOME_WRONG + [0], SOME_WRONG + [0], SOME_WRONG + [(1,)]):
            if (type(index), index, type(bead), bead, side) != (int, 0, int, 0, (1,)):
                self.check(BadPart, bags.part, family, index, bead, side)
            self.check(BadBags, bags.part, [family], index, bead, side)
            self.check(BadFamily, bags.part, ((0, 1), (2, 3)), index, bead, side)
        for value in NO_BAGS:
            self.check(BadBags, bags.part, value, 0, 0, (1,))
            self.check(BadBags, bags.part, value, None, None, None)
        for value in NO_FAMILIES:
            self.check(BadFamily, bags.part, value, 0, 0, (1,))
            self.check(BadFamily, bags.part, value, None, None, None)

    def test_one_bag(self):
        for value in NO_BAGS + NO_FAMILIES:
            if isinstance(value, bool) or value not in [2, 59, 60]:
                self.check(BadNumber, bags.one_bag, value)

    def test_bar(self):
        for value in NO_BAGS:
            self.check(BadBags, bags.bar, value)

    def test_is_family_takes_any_value(self):
        for value in NO_BAGS + NO_FAMILIES + OTHER_KINDS + SOME_WRONG[:-1]:
            self.assertIs(bags.is_family(value), False, value)

    def test_too_many(self):
        self.check(TooMany, bags.poured, tuple((0, k) for k in range(1, 60)))
        self.check(TooMany, bags.parted, (tuple(range(60)),))


class NothingChangesTest(unittest.TestCase):
    def test_arguments_are_not_modified(self):
        one, other, whole = ((0, 1), (1, 2)), ((0, 2), (1, 2)), ((0, 1, 2),)
        for value in ([one, whole, other], [one, [whole], other], [[], {}, []], [[0], [1], [2]], {0: [one]}):
            before = deepcopy(value)
            orders.shows_way(one, other, value)
            self.assertEqual(value, before)
            bags.is_family(value)
            self.assertEqual(value, before)

    def test_lists_are_new(self):
        family, other = ((0, 1, 2), (2, 3)), ((0, 3), (1, 2, 3))
        calls = [
            lambda: bags.poured(family), lambda: bags.parted(family),
            lambda: orders.way(family, other), lambda: orders.way(family, family),
        ]
        check_lists_are_new(self, calls)

    def test_equal_arguments_have_equal_answers(self):
        for family in FAMILIES:
            copy = tuple(tuple(list(bag)) for bag in family)
            for function in ONE_FAMILY[:4] + ONE_FAMILY[6:] + [bags.bar, bags.is_family]:
                self.assertEqual(function(family), function(copy))

    def test_kinds_of_answers(self):
        family = ((0, 1, 2), (2, 3))
        for value in (bags.beads(family), orders.rank(family), orders.distance(family, family)):
            self.assertIs(type(value), int)
        for value in (bags.degrees(family), bags.sizes(family), bags.pours(family), bags.moves(family)):
            self.assertIs(type(value), tuple)
        for value in (bags.poured(family), bags.parted(family), orders.way(family, family)):
            self.assertIs(type(value), list)
        for value in (bags.is_family(family), orders.is_coarser(family, family), shows_a_way(family, family)):
            self.assertIs(type(value), bool)
        for value in (
            bags.one_bag(3), bags.pour(family, 1, 0), bags.part(family, 0, 1, (2,)),
            orders.least_coarser(family, family), orders.greatest_finer(family, family),
            *bags.poured(family), *bags.parted(family), *orders.way(family, ((0, 3), (1, 2, 3))),
        ):
            self.assertIs(type(value), tuple)
            self.assertTrue(all(type(bag) is tuple for bag in value))
            self.assertTrue(bags.is_family(value))


if __name__ == "__main__":
    unittest.main()
