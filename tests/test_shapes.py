"""Point 23: hearts and shapes of families, and renaming their beads."""

import random
import unittest
from functools import lru_cache
from itertools import combinations, permutations
from math import factorial

from sharebags.errors import BadBags, BadFamily, BadNames
from sharebags.shapes import copies, heart, kinds, renamed, renamings, same_shape, shape
from tests import naive
from tests.calls import check_error
from tests.samples import HALVES, LAST_STAR, PATH, STAR, WHOLE, random_family, size_of
from tests.wrong import FAMILIES, GREAT, INTEGERS, NO_BAGS, NO_FAMILIES, OTHER_KINDS

SMALL = [family for size in range(2, 6) for family in naive.families(size)]
RANDOM = [random_family(random.Random(seed), size) for seed in range(8) for size in (6, 9, 60)]
BIG = [PATH, STAR, LAST_STAR, WHOLE, HALVES]
FAMILY = ((0, 1, 2), (2, 3))


def with_order(family, order):
    """The family with each bead replaced by the one at its place in an order."""
    return tuple(sorted(tuple(sorted(order[bead] for bead in bag)) for bag in family))


@lru_cache(maxsize=None)
def all_renamed(family):
    """For each order of all names the family renamed by it."""
    return {order: with_order(family, order) for order in permutations(range(size_of(family)))}


def neighbors(family, thing):
    """The beads and bags beside a bead or bag, told as in hearts."""
    kind, at = thing
    if kind == "bag":
        return [("bead", bead) for bead in family[at]]
    return [("bag", index) for index, bag in enumerate(family) if at in bag]


def slow_heart(family):
    """What is left, by the words of the document."""
    left = {("bead", bead) for bag in family for bead in bag} | {("bag", index) for index in range(len(family))}
    while len(left) > 1:
        left -= {thing for thing in left if len(left & set(neighbors(family, thing))) <= 1}
    (thing,) = left
    return thing


def text(family, thing, before=None):
    """The text of a bead or a bag, by the words of the document."""
    texts = sorted(text(family, other, thing) for other in neighbors(family, thing) if other != before)
    return "".join(["(", *texts, ")"] if thing[0] == "bead" else ["[", *texts, "]"])


def shuffled(source, family):
    names = list(range(size_of(family)))
    source.shuffle(names)
    return tuple(names)


class HeartsTest(unittest.TestCase):
    def test_hearts(self):
        for family in SMALL + RANDOM + BIG + FAMILIES:
            self.assertEqual(heart(family), slow_heart(family))

    def test_beads_and_bags(self):
        self.assertEqual([heart(((0, 1),)), heart(((0, 1), (1, 2))), heart(WHOLE)], [("bag", 0), ("bead", 1), ("bag", 0)])
        self.assertEqual([heart(PATH), heart(PATH[:58]), heart(PATH[:57])], [("bag", 29), ("bead", 29), ("bag", 28)])
        self.assertEqual([heart(STAR), heart(LAST_STAR), heart(HALVES)], [("bead", 0), ("bead", 59), ("bead", 29)])
        self.assertEqual(heart(((0, 1), (0, 2, 3), (3, 4))), ("bag", 1))

    def test_many_that_hang_on_one_side(self):
        # The heart lies in the middle of the longest way, however many beads hang elsewhere.
        family = PATH[:20] + tuple((20, k) for k in range(21, 60))
        self.assertEqual(heart(family), ("bag", 10))
        family = PATH[:19] + (tuple(range(19, 60)),)
        self.assertEqual(heart(family), ("bead", 10))

    def test_it_has_no_neighbor_left_and_lies_in_the_middle(self):
        # Renamed beads have the renamed heart.
        source = random.Random(1)
        for family in RANDOM + BIG:
            names = shuffled(source, family)
            other = renamed(family, names)
            kind, at = heart(family)
            if kind == "bead":
                self.assertEqual(heart(other), ("bead", names[at]))
            else:
                bag = tuple(sorted(names[bead] for bead in family[at]))
                self.assertEqual(heart(other), ("bag", other.index(bag)))


class ShapesTest(unittest.TestCase):
    def test_shapes(self):
        for family in SMALL + RANDOM + BIG + FAMILIES:
            self.assertEqual(shape(family), text(family, slow_heart(family)))

    def test_told_shapes(self):
        self.assertEqual([shape(((0, 1),)), shape(((0, 1, 2),))], ["[()()]", "[()()()]"])
        self.assertEqual([shape(((0, 1), (1, 2))), shape(((0, 1), (1, 2), (2, 3)))], ["([()][()])", "[([()])([()])]"])
        self.assertEqual(shape(((0, 1, 2), (2, 3), (3, 4))), "[([()()])([()])]")
        # ")" stands ahead of "[": so the shorter text comes first.
        self.assertEqual(shape(((0, 1), (0, 2), (0, 3), (3, 4))), "[([()])([()][()])]")
        self.assertEqual([shape(WHOLE), shape(STAR)], ["[" + "()" * 60 + "]", "(" + "[()]" * 59 + ")"])
        self.assertEqual(shape(PATH), "[" + ("(" + "[(" * 29 + ")]" * 29 + ")") * 2 + "]")

    def test_same_shape(self):
        for size in range(2, 5):
            for one in naive.families(size):
                for other in naive.families(size):
                    self.assertIs(same_shape(one, other), other in all_renamed(one).values())
        for one in naive.families(5)[::9]:
            for other in naive.families(5):
                self.assertIs(same_shape(one, other), other in all_renamed(one).values())

    def test_same_shape_of_more_beads(self):
        source = random.Random(2)
        for family in RANDOM + BIG:
            other = with_order(family, shuffled(source, family))
            self.assertIs(same_shape(family, other), True)
            self.assertEqual(shape(family), shape(other))
        for one, other in combinations(BIG, 2):
            self.assertIs(same_shape(one, other), {one, other} == {STAR, LAST_STAR})
        # As many beads in as many bags with the same sizes and degrees, in another order.
        one = tuple(sorted(PATH[:6] + ((2, 7),)))
        other = tuple(sorted(PATH[:6] + ((3, 7),)))
        self.assertIs(same_shape(one, other), False)
        self.assertIs(same_shape(one, tuple(sorted(PATH[:6] + ((4, 7),)))), True)

    def test_other_numbers_of_beads_are_another_shape(self):
        for one in FAMILIES:
            for other in FAMILIES:
                if size_of(one) != size_of(other):
                    self.assertIs(same_shape(one, other), False)

    def test_shapes_tell_families_apart(self):
        for size in range(2, 6):
            found = {}
            for family in naive.families(size):
                found.setdefault(shape(family), set()).add(family)
            for families in found.values():
                self.assertEqual(families, set(all_renamed(min(families)).values()))


class RenamingsTest(unittest.TestCase):
    def test_all_orders_of_names(self):
        for family in SMALL:
            orders = all_renamed(family)
            for order in list(orders)[:: 1 if size_of(family) < 5 else 7]:
                self.assertEqual(renamed(family, order), orders[order])
            staying = [order for order, other in orders.items() if other == family]
            self.assertEqual(renamings(family), len(staying))
            self.assertEqual(copies(family), len(set(orders.values())))
            size = size_of(family)
            groups = {tuple(sorted({order[bead] for order in staying})) for bead in range(size)}
            self.assertEqual(kinds(family), tuple(sorted(groups)))

    def test_six_beads(self):
        source = random.Random(3)
        families = [random_family(source, 6) for _ in range(12)]
        families += [PATH[:5], STAR[:5], ((0, 1, 2), (0, 3, 4), (0, 5)), ((0, 1), (0, 2), (0, 3), (3, 4), (3, 5)), ((0, 1, 2), (2, 3), (3, 4, 5))]
        for family in families:
            orders = [order for order in permutations(range(6)) if with_order(family, order) == family]
            self.assertEqual([renamings(family), copies(family)], [len(orders), 720 // len(orders)])
            self.assertEqual(kinds(family), tuple(sorted({tuple(sorted({order[bead] for order in orders})) for bead in range(6)})))

    def test_sixty_beads(self):
        self.assertEqual([renamings(WHOLE), copies(WHOLE)], [factorial(60), 1])
        self.assertEqual([renamings(STAR), copies(STAR)], [factorial(59), 60])
        self.assertEqual([renamings(PATH), copies(PATH)], [2, factorial(60) // 2])
        self.assertEqual(renamings(HALVES), factorial(29) * factorial(30))
        even = (tuple(range(30)), (29, 30), tuple(range(30, 60)))
        self.assertEqual(renamings(even), 2 * factorial(29) ** 2)
        self.assertEqual([kinds(even), kinds(HALVES)], [((*range(29), *range(31, 60)), (29, 30)), (tuple(range(29)), (29,), tuple(range(30, 60)))])
        self.assertEqual([kinds(WHOLE), kinds(STAR)], [(tuple(range(60)),), ((0,), tuple(range(1, 60)))])
        self.assertEqual(kinds(PATH), tuple((k, 59 - k) for k in range(30)))
        self.assertEqual(kinds(PATH[:58]), tuple((k, 58 - k) for k in range(29)) + ((29,),))

    def test_two_beads(self):
        family = ((0, 1),)
        self.assertEqual([renamings(family), copies(family), kinds(family)], [2, 1, ((0, 1),)])
        self.assertEqual([renamed(family, (0, 1)), renamed(family, (1, 0))], [family, family])

    def test_alike_texts_in_different_places(self):
        # At beads 1 and 2 hang two leaves alike, at bead 3 hangs one with the same text as these.
        family = ((0, 1), (0, 2), (0, 3), (1, 4), (1, 5), (2, 6), (2, 7), (3, 8))
        self.assertEqual(kinds(family), ((0,), (1, 2), (3,), (4, 5, 6, 7), (8,)))
        self.assertEqual([renamings(family), copies(family)], [8, factorial(9) // 8])

    def test_more_beads(self):
        source = random.Random(4)
        for family in RANDOM + BIG:
            names = shuffled(source, family)
            other = renamed(family, names)
            self.assertEqual(other, with_order(family, names))
            self.assertEqual(renamings(other), renamings(family))
            self.assertEqual(copies(family) * renamings(family), factorial(size_of(family)))
            groups = [tuple(sorted(names[bead] for bead in group)) for group in kinds(family)]
            self.assertEqual(kinds(other), tuple(sorted(groups)))
            # Two beads come to one another just if the texts of the trees seen from them are alike.
            texts = [text(family, ("bead", bead)) for bead in range(size_of(family))]
            groups = {tuple(k for k in range(len(texts)) if texts[k] == seen) for seen in texts}
            self.assertEqual(kinds(family), tuple(sorted(groups)))
            self.assertEqual(renamed(family, tuple(range(size_of(family)))), family)

    def test_no_names(self):
        wrong = [
            (), (0,), (0, 1, 2), (0, 1, 2, 3, 4), (0, 1, 2, 2), (0, 0, 1, 2), (1, 2, 3, 4), (0, 1, 2, 4), (-1, 0, 1, 2), (3, 2, 1, -1),
            (0, 1, 2, 60), (0, 1, 2, GREAT), (-GREAT, 1, 2, 3), [0, 1, 2, 3], [3, 2, 1, 0], (False, 1, 2, 3), (0, True, 2, 3),
            (0, 1, 2, None), (0, 1, 2, "3"), "0123", ("0", "1", "2", "3"), (0, 1, 2, (3,)), (0, 1, 2, [3]), (0, 1, {}, 3),
            ((0, 1, 2, 3),), ((0,), (1,), (2,), (3,)), {0: 1, 1: 0, 2: 3, 3: 2}, FAMILY, tuple(range(60)), (None,) * 4, (True,) * 4,
        ]
        for value in wrong + OTHER_KINDS + INTEGERS + NO_BAGS + NO_FAMILIES + FAMILIES:
            check_error(self, BadNames, renamed, FAMILY, value)
        for value in (tuple(range(59)), tuple(range(1, 61)), tuple(range(61)), (0,) * 60, list(range(60)), (*range(59), True)):
            for family in BIG:
                check_error(self, BadNames, renamed, family, value)
        self.assertEqual(renamed(PATH, tuple(range(60))[::-1]), PATH)

    def test_the_leftmost_comes_first(self):
        for names in ((0, 1, 2, 3), (0, 1), None, [], -1):
            for value in NO_BAGS[::3]:
                check_error(self, BadBags, renamed, value, names)
            for value in NO_FAMILIES[::3]:
                check_error(self, BadFamily, renamed, value, names)
        for no_bags in NO_BAGS[::5]:
            for no_family in NO_FAMILIES[::4]:
                check_error(self, BadBags, same_shape, no_bags, no_family)
                check_error(self, BadFamily, same_shape, no_family, no_bags)
                check_error(self, BadBags, same_shape, PATH, no_bags)
                check_error(self, BadFamily, same_shape, PATH, no_family)


if __name__ == "__main__":
    unittest.main()
