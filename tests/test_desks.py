"""Point 25: a box, that is a family that is poured and parted."""

import random
import unittest
from itertools import product

from sharebags.bags import part, pour, pours
from sharebags.desks import Box
from sharebags.errors import BadBags, BadFamily, BadPart, BadPour, NothingToUndo
from sharebags.orders import distance
from tests import naive
from tests.calls import check_error
from tests.samples import HALVES, LAST_STAR, PATH, STAR, WHOLE, random_family, size_of
from tests.wrong import FAMILIES, GREAT, NO_BAGS, NO_FAMILIES, OTHER_KINDS

SMALL = [family for size in range(2, 6) for family in naive.families(size)]
RANDOM = [random_family(random.Random(seed), size) for seed in range(3) for size in (7, 20, 60)]
BIG = [PATH, STAR, LAST_STAR, WHOLE, HALVES]
ONE = ((0, 1), (1, 2))


def told(box):
    """All that a box tells of itself."""
    return [box.family, box.made, box.wasted(), box.seen(), box.coarsest(), box.open_pairs()]


def random_move(source, box):
    """Make a random move, and return whether one was made; a few bags are parted at a random bead."""
    family = box.family
    pairs = pours(family)
    great = [index for index, bag in enumerate(family) if len(bag) > 2]
    if pairs and (not great or source.random() < 0.5):
        pair = source.choice(pairs)
        box.pour(*source.choice((pair, pair[::-1])))
    elif great:
        index = source.choice(great)
        bead = source.choice(family[index])
        others = [other for other in family[index] if other != bead]
        side = source.sample(others, source.randint(1, len(others) - 1))
        box.part(index, bead, tuple(sorted(side)))
    return family != box.family


class BoxTest(unittest.TestCase):
    def check_told(self, box, families):
        """Check what a box tells against the list of the families that were come to."""
        self.assertEqual([box.family, box.made], [families[-1], len(families) - 1])
        if size_of(families[0]) < 6:
            fewest = naive.distances(families[0])[families[-1]]
        else:
            fewest = distance(families[0], families[-1])
        self.assertEqual(box.wasted(), len(families) - 1 - fewest)
        self.assertEqual([box.seen(), box.coarsest()], [len(set(families)), min(map(len, families))])
        self.assertEqual(box.open_pairs(), pours(families[-1]))

    def test_a_new_box(self):
        for family in SMALL + RANDOM + BIG + FAMILIES:
            box = Box(family)
            self.assertEqual(told(box), [family, 0, 0, 1, len(family), pours(family)])
            check_error(self, NothingToUndo, box.undo)
            self.assertEqual(told(box), [family, 0, 0, 1, len(family), pours(family)])

    def test_moves(self):
        for family in SMALL[::3]:
            for pair in pours(family):
                box = Box(family)
                self.assertIsNone(box.pour(*pair))
                self.assertEqual(box.family, pour(family, *pair))
                self.assertEqual([box.made, box.wasted(), box.seen(), box.coarsest()], [1, 0, 2, len(family) - 1])
        box = Box(((0, 1, 2), (2, 3)))
        self.assertIsNone(box.part(0, 1, (2,)))
        self.assertEqual(box.family, part(((0, 1, 2), (2, 3)), 0, 1, (2,)))
        self.assertEqual([box.made, box.wasted(), box.seen(), box.coarsest()], [1, 0, 2, 2])
        self.assertIsNone(box.undo())
        self.assertEqual(box.family, ((0, 1, 2), (2, 3)))

    def test_random_moves(self):
        source = random.Random(1)
        for family in SMALL[::11] + RANDOM + BIG:
            box, families = Box(family), [family]
            for _ in range(40 if size_of(family) < 20 else 15):
                if source.random() < 0.3:
                    if len(families) > 1:
                        self.assertIsNone(box.undo())
                        families.pop()
                    else:
                        check_error(self, NothingToUndo, box.undo)
                elif random_move(source, box):
                    families.append(box.family)
                self.check_told(box, families)
            while len(families) > 1:
                box.undo()
                families.pop()
                self.check_told(box, families)
            check_error(self, NothingToUndo, box.undo)

    def test_undo_behind_other_calls(self):
        box = Box(((0, 1), (1, 2), (2, 3)))
        box.pour(0, 1)
        told(box)
        check_error(self, BadPour, box.pour, 0, 2)
        box.undo()
        self.assertEqual(told(box), [((0, 1), (1, 2), (2, 3)), 0, 0, 1, 3, ((0, 1), (1, 2))])
        check_error(self, NothingToUndo, box.undo)
        check_error(self, BadPart, box.part, 0, 0, (1,))
        check_error(self, NothingToUndo, box.undo)
        # Moves behind one that was taken back are taken back themselves, the last one first.
        box.pour(1, 2)
        box.pour(1, 0)
        box.undo()
        box.part(1, 3, (1,))
        self.assertEqual(box.family, ((0, 1), (1, 3), (2, 3)))
        self.assertEqual(told(box)[1:], [2, 0, 3, 2, ((0, 1), (1, 2))])
        box.undo()
        self.assertEqual(box.family, ((0, 1), (1, 2, 3)))
        box.undo()
        self.assertEqual(box.family, ((0, 1), (1, 2), (2, 3)))
        check_error(self, NothingToUndo, box.undo)

    def test_a_family_that_is_come_to_twice(self):
        box = Box(ONE)
        for moves in range(0, 8, 2):
            self.assertEqual(told(box), [ONE, moves, moves, min(moves, 1) + 1, 2 if moves == 0 else 1, ((0, 1),)])
            box.pour(0, 1)
            self.assertEqual(told(box), [((0, 1, 2),), moves + 1, moves, 2, 1, ()])
            box.part(0, 1, (2,))
        for moves in range(8, 0, -1):
            self.assertEqual([box.made, box.seen()], [moves, 2])
            box.undo()
        self.assertEqual(told(box), [ONE, 0, 0, 1, 2, ((0, 1),)])

    def test_what_was_taken_back_does_not_count(self):
        box = Box(((0, 1), (0, 2), (0, 3)))
        box.pour(0, 1)
        box.pour(0, 1)
        self.assertEqual([box.seen(), box.coarsest(), box.wasted()], [3, 1, 0])
        box.undo()
        self.assertEqual([box.seen(), box.coarsest(), box.wasted()], [2, 2, 0])
        box.part(0, 1, (2,))
        self.assertEqual([box.family, box.seen(), box.coarsest(), box.wasted()], [((0, 1), (0, 3), (1, 2)), 3, 2, 0])
        box.undo()
        box.undo()
        self.assertEqual([box.seen(), box.coarsest(), box.made], [1, 3, 0])

    def test_wasted_moves(self):
        # By the one bag it is farther than needed: two moves are wasted.
        box = Box(((0, 1), (1, 2), (2, 3)))
        box.pour(0, 1)
        box.pour(0, 1)
        box.part(0, 0, (1, 2))
        self.assertEqual([box.family, box.made, box.wasted()], [((0, 1, 2), (0, 3)), 3, 0])
        box.undo()
        box.part(0, 2, (0, 1))
        self.assertEqual([box.family, box.made, box.wasted(), box.seen()], [((0, 1, 2), (2, 3)), 3, 2, 3])

    def test_sixty_beads(self):
        box, families = Box(PATH), [PATH]
        for _ in range(58):
            box.pour(1, 0)
            families.append(box.family)
        self.check_told(box, families)
        self.assertEqual(told(box), [WHOLE, 58, 0, 59, 1, ()])
        box.part(0, 29, tuple(range(29)))
        self.assertEqual(told(box), [HALVES, 59, 2, 60, 1, ((0, 1),)])
        box = Box(STAR)
        self.assertEqual(len(box.open_pairs()), 59 * 29)
        self.assertEqual([box.pour(7, 55), box.made, box.wasted(), box.seen(), box.coarsest()], [None, 1, 0, 2, 58])

    def test_boxes_do_not_share_moves(self):
        one, other = Box(ONE), Box(ONE)
        one.pour(0, 1)
        self.assertEqual([one.made, other.made, one.family, other.family], [1, 0, ((0, 1, 2),), ONE])
        check_error(self, NothingToUndo, other.undo)


class WrongTest(unittest.TestCase):
    VALUES = OTHER_KINDS + [-GREAT, -1, 3, 4, 60, GREAT, (), (0,), (0, 1), ((0, 1),), ((0, 1), (1, 2))]

    def check_changes_nothing(self, error, box, function, *values):
        before = told(box)
        check_error(self, error, function, *values)
        self.assertEqual(told(box), before)

    def boxes(self):
        """A box with no move, one with moves, and one with moves that were taken back; each has three bags or one."""
        yield Box(((0, 1), (1, 2, 3), (3, 4)))
        box = Box(((0, 1), (1, 2), (2, 3), (3, 4)))
        box.pour(1, 2)
        yield box
        box = Box(((0, 1), (1, 2, 3), (3, 4)))
        box.pour(0, 1)
        box.undo()
        yield box

    def test_no_families(self):
        for value in NO_BAGS:
            check_error(self, BadBags, Box, value)
        for value in NO_FAMILIES:
            check_error(self, BadFamily, Box, value)

    def test_pour(self):
        for box in self.boxes():
            for value in self.VALUES:
                for other in (0, 1, value):
                    self.check_changes_nothing(BadPour, box, box.pour, value, other)
                    self.check_changes_nothing(BadPour, box, box.pour, other, value)
            for one, other in ((0, 0), (1, 1), (2, 2), (0, 2), (2, 0), (0, 3), (-1, 1)):
                self.check_changes_nothing(BadPour, box, box.pour, one, other)
        self.check_changes_nothing(BadPour, Box(WHOLE), Box(WHOLE).pour, 0, 0)

    def test_part(self):
        for box in self.boxes():
            for value in self.VALUES:
                self.check_changes_nothing(BadPart, box, box.part, value, 2, (1,))
                if value != 3 or isinstance(value, bool):
                    self.check_changes_nothing(BadPart, box, box.part, 1, value, (1,))
                self.check_changes_nothing(BadPart, box, box.part, 1, 2, value)
                self.check_changes_nothing(BadPart, box, box.part, value, value, value)
            for index, bead, side in (
                (0, 0, (1,)), (0, 0, ()), (1, 0, (2,)), (1, 2, (1, 3)), (1, 2, ()), (1, 2, (2,)), (1, 2, (0,)), (1, 2, (3, 1)),
                (1, 2, [1]), (1, 2, (True,)), (1, True, (2,)), (True, 2, (1,)), (1, 2, (1, 1)), (2, 3, (4,)), (3, 0, (1,)), (1, 4, (2,)),
            ):
                self.check_changes_nothing(BadPart, box, box.part, index, bead, side)

    def test_moves_go_on_behind_an_error(self):
        for box in self.boxes():
            made = box.made
            for value in (None, True, (0,)):
                check_error(self, BadPour, box.pour, value, 1)
                check_error(self, BadPart, box.part, 1, value, value)
            box.part(1, 2, (3,))
            self.assertEqual([box.family, box.made], [((0, 1), (1, 2), (2, 3), (3, 4)), made + 1])

    def test_properties_are_not_assigned(self):
        box = Box(ONE)
        for name, value in product(("family", "made"), (ONE, 1, None)):
            with self.assertRaises(AttributeError):
                setattr(box, name, value)
        self.assertEqual(told(box), [ONE, 0, 0, 1, 2, ((0, 1),)])

    def test_kinds_of_answers(self):
        box = Box(((0, 1, 2), (2, 3)))
        box.pour(0, 1)
        self.assertEqual([type(value) for value in told(box)], [tuple, int, int, int, int, tuple])


if __name__ == "__main__":
    unittest.main()
