"""Point 9: codes of families, and the numbers of families with as many beads and bags."""

import random
import unittest
from itertools import product

from sharebags.codes import code, family_at, family_number, family_of, next_family
from sharebags.errors import BadCode, BadNumber
from tests import naive
from tests.samples import HALVES, LAST_STAR, PATH, STAR, WHOLE, random_family, size_of
from tests.wrong import FAMILIES, GREAT, INTEGERS, NO_BAGS, NO_FAMILIES, OTHER_KINDS

BIG = [PATH, STAR, LAST_STAR, WHOLE, HALVES]


def partitions(things):
    """All partitions of things, ascending tuples of ascending tuples."""
    if not things:
        return [()]
    found = []
    for parts in partitions(things[:-1]):
        found.append(parts + ((things[-1],),))
        for k, part in enumerate(parts):
            found.append(parts[:k] + (part + (things[-1],),) + parts[k + 1:])
    return [tuple(sorted(parts)) for parts in found]


RANDOM = [random_family(random.Random(seed), size) for seed in range(16) for size in (11, 17, 59, 60)]


class CodeTest(unittest.TestCase):
    def test_small_families(self):
        for size in range(2, 6):
            for family in naive.families(size):
                self.assertEqual(code(family), naive.code(family))
                self.assertEqual(family_of(code(family)), family)

    def test_each_partition_with_stems_is_the_code_of_one_family(self):
        for size in range(2, 6):
            met = set()
            for parts in partitions(tuple(range(1, size))):
                for stems in product(range(size), repeat=len(parts) - 1):
                    family = family_of((parts, stems))
                    self.assertEqual(naive.code(family), (parts, stems))
                    met.add(family)
            self.assertEqual(met, set(naive.families(size)))

    def test_two_beads(self):
        self.assertEqual(code(((0, 1),)), (((1,),), ()))
        self.assertEqual(family_of((((1,),), ())), ((0, 1),))

    def test_more_beads(self):
        # Taken away are the bags with the own beads 3, 5, 4, 2, and 6 and 7, in this order.
        family = ((0, 1), (1, 2), (1, 6, 7), (2, 4), (3, 7), (4, 5))
        self.assertEqual(code(family), (((1,), (2,), (3,), (4,), (5,), (6, 7)), (7, 4, 2, 1, 1)))
        for family in RANDOM + BIG:
            self.assertEqual(code(family), naive.code(family))
            self.assertEqual(family_of(code(family)), family)

    def test_sixty_beads(self):
        self.assertEqual(code(WHOLE), ((tuple(range(1, 60)),), ()))
        self.assertEqual(code(STAR), (tuple((k,) for k in range(1, 60)), (0,) * 58))
        self.assertEqual(code(PATH), (tuple((k,) for k in range(1, 60)), tuple(range(58, 0, -1))))
        self.assertEqual(code(LAST_STAR), (tuple((k,) for k in range(1, 60)), (59,) * 58))
        self.assertEqual(family_of((tuple((k,) for k in range(1, 60)), (59,) * 58)), LAST_STAR)

    def test_values_that_are_no_codes(self):
        good = (((1, 2), (3,)), (2,))
        self.assertEqual(family_of(good), ((0, 1, 2), (2, 3)))
        wrong = [
            (), good[:1], good + ((),), good + (2,), list(good), [good[0], good[1]], (list(good[0]), good[1]),
            (good[0], list(good[1])), (([1, 2], (3,)), (2,)), (((1, 2), [3]), (2,)), (good[1], good[0]),
            # the number of stems
            (good[0], ()), (good[0], (2, 2)), (good[0], 2), (good[0], None), (good[0], ((2,),)), (((1, 2, 3),), (0,)),
            (((1, 2, 3),), None), (((1, 2, 3),), 0), (((1, 2, 3),), []), (((1, 2, 3),), False),
            # stems that are no beads
            (good[0], (4,)), (good[0], (-1,)), (good[0], (GREAT,)), (good[0], (-GREAT,)), (good[0], (True,)),
            (good[0], (False,)), (good[0], (None,)), (good[0], ("2",)), (good[0], ((2,),)), (good[0], ([2],)),
            (good[0], "2"), (good[0], {2: 2}), (good[0], ({},)), (((1,), (2,)), (3,)), (((1,), (2,), (3,)), (0, 4)),
            # no partitions of the beads but 0
            (((0, 1), (2,)), (0,)), (((0, 1, 2),), ()), (((0,),), ()), (((1, 3),), ()), (((2,),), ()),
            (((1,), (3,)), (0,)), (((1, 2), (2,)), (0,)), (((1,), (1,)), (0,)), (((1, 2), (1, 3)), (0,)),
            (((1, 1),), ()), (((2, 1),), ()), (((1, 2), (3, 3)), (0,)), (((2, 1), (3,)), (0,)),
            (((3,), (1, 2)), (2,)), (((2,), (1,)), (0,)), (((1,), ()), (0,)), (((), (1,)), (0,)), (((),), ()),
            ((), ()), ((1,), ()), ((1, 2), (0,)), (((1,), 2), (0,)), (((1,), None), (0,)), (((1,), True), (0,)),
            (((1,), "2"), (0,)), (("1",), ()), (((True,),), ()), (((True,), (2,)), (0,)), (((None,),), ()),
            ((((1,),),), ()), ((((1,), (2,)),), ()), (((1, (2,)),), ()), (((1, [2]),), ()), (((-1, 1),), ()),
            (((-1,), (1,)), (0,)), (None, ()), (True, ()), ("", ()), ("1", ()), ({}, ()), ([], ()), ({(1,): 1}, ()),
            (((1, GREAT),), ()), (((1,), (GREAT,)), (0,)),
            # more beads than there are
            ((tuple(range(1, 61)),), ()), (tuple((k,) for k in range(1, 61)), (0,) * 59),
            (tuple((k,) for k in range(1, 60)), (0,) * 57 + (60,)), (tuple((k,) for k in range(1, 60)), (0,) * 59),
            (tuple((k,) for k in range(1, 60)), (0,) * 57),
        ]
        for value in wrong + OTHER_KINDS + INTEGERS + NO_BAGS + NO_FAMILIES + FAMILIES:
            with self.assertRaises(BadCode, msg=value) as caught:
                family_of(value)
            self.assertIs(type(caught.exception), BadCode)


class NumberTest(unittest.TestCase):
    def test_small_families(self):
        for size in range(2, 6):
            for bags in range(1, size):
                ordered = sorted([f for f in naive.families(size) if len(f) == bags], key=naive.code_place)
                for index, family in enumerate(ordered):
                    self.assertEqual(family_number(family), index)
                    self.assertEqual(family_at(size, bags, index), family)
                    behind = ordered[index + 1] if index + 1 < len(ordered) else None
                    self.assertEqual(next_family(family), behind)
                for index in (len(ordered), len(ordered) + 1, -1):
                    with self.assertRaises(BadNumber):
                        family_at(size, bags, index)

    def test_partitions_of_more_beads_in_order(self):
        # With all stems 0 the families stand as their partitions do.
        for size, bags in [(8, 3), (8, 5), (7, 2), (9, 8), (9, 1)]:
            words = []
            for parts in partitions(tuple(range(1, size))):
                if len(parts) == bags:
                    word = tuple(k for bead in range(1, size) for k in range(bags) if bead in parts[k])
                    words.append((word, parts))
            for index, (_, parts) in enumerate(sorted(words)):
                family = tuple(sorted((0, *part) for part in parts))
                self.assertEqual(family_number(family), index * size ** (bags - 1))
                self.assertEqual(family_at(size, bags, index * size ** (bags - 1)), family)

    def test_sixty_beads(self):
        last = 60 ** 58 - 1
        self.assertEqual((family_number(STAR), family_at(60, 59, 0)), (0, STAR))
        self.assertEqual((family_number(LAST_STAR), family_at(60, 59, last)), (last, LAST_STAR))
        self.assertIsNone(next_family(LAST_STAR))
        expected = sum(stem * 60 ** place for place, stem in enumerate(range(1, 59)))
        self.assertEqual((family_number(PATH), family_at(60, 59, expected)), (expected, PATH))
        self.assertEqual((family_number(WHOLE), family_at(60, 1, 0), next_family(WHOLE)), (0, WHOLE, None))
        self.assertEqual(family_at(60, 59, 1), family_of((tuple((k,) for k in range(1, 60)), (0,) * 57 + (1,))))
        # The first partition of two parts has bead 59 alone, the last one bead 1.
        first = (tuple(range(59)), (0, 59))
        self.assertEqual((family_number(first), family_at(60, 2, 0)), (0, first))
        many = (2 ** 58 - 1) * 60
        self.assertEqual(family_at(60, 2, many - 1), ((0, *range(2, 60)), (1, 59)))
        self.assertIsNone(next_family(((0, *range(2, 60)), (1, 59))))
        self.assertEqual(family_number(((0, *range(2, 60)), (1, 59))), many - 1)
        for index in (many, many + 1, last, GREAT):
            with self.assertRaises(BadNumber):
                family_at(60, 2, index)
        for bags, index in [(1, 1), (59, last + 1), (59, -1)]:
            with self.assertRaises(BadNumber):
                family_at(60, bags, index)

    def test_random_families(self):
        for family in RANDOM:
            size, number = size_of(family), family_number(family)
            self.assertEqual(family_at(size, len(family), number), family)
            behind = next_family(family)
            self.assertEqual(family_number(behind), number + 1)
            self.assertEqual((size_of(behind), len(behind)), (size, len(family)))
            self.assertLess(naive.code_place(family), naive.code_place(behind))
        source = random.Random(5)
        for _ in range(30):
            index = source.randrange(29 * 60 ** 20)
            family = family_at(60, 30, index)
            self.assertEqual((len(family), family_number(family)), (30, index))

    def test_the_last_two(self):
        for size in range(3, 12):
            last = tuple((k, size - 1) for k in range(size - 1))
            ahead = family_at(size, size - 1, size ** (size - 2) - 2)
            self.assertEqual((next_family(ahead), next_family(last)), (last, None))

    def test_other_values(self):
        self.assertEqual(family_at(4, 2, 11), ((0, 2, 3), (1, 3)))
        for value in OTHER_KINDS + INTEGERS + [(), (3,), ((0, 1),), 3, 4, 11, 12]:
            if type(value) is not int or not 2 <= value <= 60:
                for bags, index in product([1, 2, None, "1", 70], [0, None, -1]):
                    with self.assertRaises(BadNumber, msg=value):
                        family_at(value, bags, index)
            if type(value) is not int or not 1 <= value <= 3:
                for index in (0, None, -1, GREAT):
                    with self.assertRaises(BadNumber, msg=value):
                        family_at(4, value, index)
            if type(value) is not int or not 0 <= value <= 11:
                with self.assertRaises(BadNumber, msg=value):
                    family_at(4, 2, value)
        for size in (2, 3, 60):
            for bags in (0, size, size + 1, -1):
                with self.assertRaises(BadNumber):
                    family_at(size, bags, 0)


if __name__ == "__main__":
    unittest.main()
