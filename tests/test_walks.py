"""Point 17: walks of so many steps, the chances of a walker, and resistances."""

import random
import unittest
from fractions import Fraction
from math import gcd

from sharebags.errors import BadBags, BadBead, BadFamily, BadNumber
from sharebags.walks import chance_at, count_rounds, count_walks, mean_steps, neighbors
from sharebags.walks import resistance, stay_share, walk_counts
from tests import naive
from tests.calls import check_error
from tests.samples import HALVES, LAST_STAR, PATH, STAR, WHOLE, random_family, size_of
from tests.wrong import FAMILIES, GREAT, NO_BAGS, NO_FAMILIES, OTHER_KINDS

SMALL = [family for size in range(2, 6) for family in naive.families(size)]
RANDOM = [random_family(random.Random(seed), size) for seed in range(4) for size in (8, 60)]
BIG = [PATH, STAR, LAST_STAR, WHOLE, HALVES]
FAMILY = ((0, 1, 2), (2, 3))


def share(part):
    part = Fraction(part)
    return (part.numerator, part.denominator)


def beside(family, bead):
    """The beads to which a walker may go from one."""
    return [other for bag in family if bead in bag for other in bag if other != bead]


def walks(family, bead, steps):
    """All walks of so many steps from a bead, one by one."""
    if steps == 0:
        return [(bead,)]
    return [(bead, *rest) for other in beside(family, bead) for rest in walks(family, other, steps - 1)]


def walked(family, bead, steps):
    """The numbers of walks to all beads, step by step."""
    counts = {bead: 1}
    for _ in range(steps):
        found = {}
        for here, many in counts.items():
            for other in beside(family, here):
                found[other] = found.get(other, 0) + many
        counts = found
    return tuple(counts.get(other, 0) for other in range(size_of(family)))


def chances(family, bead, steps):
    """The chances to be at all beads, step by step."""
    found = {bead: Fraction(1)}
    for _ in range(steps):
        before, found = found, {}
        for here, chance in before.items():
            for other in beside(family, here):
                found[other] = found.get(other, 0) + chance / len(beside(family, here))
    return [found.get(other, Fraction(0)) for other in range(size_of(family))]


def waits(family, goal):
    """The mean numbers of steps until a bead is come to: from each other one a step more than from where it leads."""
    size = size_of(family)
    others = [bead for bead in range(size) if bead != goal]
    rows = []
    for bead in others:
        near = beside(family, bead)
        row = [Fraction(int(other == bead)) - Fraction(near.count(other), len(near)) for other in others]
        rows.append(row + [Fraction(1)])
    for k in range(len(rows)):
        pivot = next(i for i in range(k, len(rows)) if rows[i][k])
        rows[k], rows[pivot] = rows[pivot], rows[k]
        rows[k] = [value / rows[k][k] for value in rows[k]]
        for i in range(len(rows)):
            if i != k and rows[i][k]:
                rows[i] = [one - rows[i][k] * other for one, other in zip(rows[i], rows[k])]
    found = {bead: row[-1] for bead, row in zip(others, rows)}
    return [found.get(bead, Fraction(0)) for bead in range(size)]


def bags_between(family, one, other):
    """The bags on the way between two beads."""
    (steps,) = naive.all_ways(family, one, other)
    return [family[index] for index in steps[1::2]]


class WalksTest(unittest.TestCase):
    def test_walks_counted_one_by_one(self):
        for family in SMALL:
            size = size_of(family)
            for steps in range(5 if size < 5 else 4):
                rounds = 0
                for bead in range(size):
                    found = [walk[-1] for walk in walks(family, bead, steps)]
                    expected = tuple(found.count(other) for other in range(size))
                    self.assertEqual(walk_counts(family, bead, steps), expected)
                    for other in range(size):
                        self.assertEqual(count_walks(family, bead, other, steps), expected[other])
                    rounds += found.count(bead)
                self.assertEqual(count_rounds(family, steps), rounds)

    def test_more_steps_and_beads(self):
        source = random.Random(1)
        for family in RANDOM + BIG:
            size = size_of(family)
            for steps in (0, 1, 2, 7, 20):
                bead = source.randrange(size)
                expected = walked(family, bead, steps)
                self.assertEqual(walk_counts(family, bead, steps), expected)
                for other in (0, bead, size - 1):
                    self.assertEqual(count_walks(family, bead, other, steps), expected[other])
                    self.assertEqual(count_walks(family, other, bead, steps), expected[other])
            self.assertEqual(count_rounds(family, 3), sum(walked(family, bead, 3)[bead] for bead in range(size)))

    def test_two_hundred_steps(self):
        self.assertEqual(count_walks(WHOLE, 3, 3, 200), (59 ** 200 + 59) // 60)
        self.assertEqual(count_walks(WHOLE, 3, 4, 200), (59 ** 200 - 1) // 60)
        self.assertEqual(count_rounds(WHOLE, 200), 59 ** 200 + 59)
        self.assertEqual(count_rounds(WHOLE, 199), 59 ** 199 - 59)
        self.assertEqual([count_walks(STAR, 0, 0, 200), count_walks(STAR, 0, 5, 200)], [59 ** 100, 0])
        self.assertEqual([count_walks(STAR, 7, 8, 200), count_walks(STAR, 0, 5, 199)], [59 ** 99, 59 ** 99])
        self.assertEqual([count_rounds(STAR, 200), count_rounds(STAR, 199)], [2 * 59 ** 100, 0])
        for family in (PATH, LAST_STAR, HALVES, RANDOM[1]):
            for bead in (0, 29, 59):
                self.assertEqual(walk_counts(family, bead, 200), walked(family, bead, 200))
        self.assertEqual(walk_counts(((0, 1),), 0, 200), (1, 0))
        self.assertEqual([count_rounds(((0, 1),), 200), count_rounds(((0, 1),), 199)], [2, 0])

    def test_no_step(self):
        for family in SMALL[::9] + RANDOM + BIG:
            size = size_of(family)
            for bead in (0, size // 2, size - 1):
                self.assertEqual(walk_counts(family, bead, 0), tuple(int(other == bead) for other in range(size)))
                self.assertEqual(count_walks(family, bead, bead, 0), 1)
                self.assertEqual(count_walks(family, bead, (bead + 1) % size, 0), 0)
            self.assertEqual(count_rounds(family, 0), size)
            self.assertEqual(count_rounds(family, 1), 0)

    def test_one_step_beyond(self):
        for family in FAMILIES[:4] + BIG:
            for steps in (-1, 201, 202, -200, GREAT):
                check_error(self, BadNumber, count_walks, family, 0, 1, steps)
                check_error(self, BadNumber, walk_counts, family, 0, steps)
                check_error(self, BadNumber, count_rounds, family, steps)

    def test_neighbors(self):
        for family in SMALL + RANDOM + BIG:
            expected = tuple(len(set(beside(family, bead))) for bead in range(size_of(family)))
            self.assertEqual(neighbors(family), expected)
            self.assertEqual(neighbors(family), tuple(sum(walk_counts(family, bead, 1)) for bead in range(len(expected))))
        self.assertEqual([neighbors(((0, 1),)), neighbors(WHOLE)], [(1, 1), (59,) * 60])
        self.assertEqual([neighbors(STAR), neighbors(PATH)], [(59,) + (1,) * 59, (1,) + (2,) * 58 + (1,)])


class ChancesTest(unittest.TestCase):
    def test_chances_of_walks_one_by_one(self):
        for family in SMALL[:33] + SMALL[33::10]:
            for steps in range(4):
                for bead in range(size_of(family)):
                    found = [Fraction(0)] * size_of(family)
                    for walk in walks(family, bead, steps):
                        chance = Fraction(1)
                        for here in walk[:-1]:
                            chance /= len(beside(family, here))
                        found[walk[-1]] += chance
                    for other, chance in enumerate(found):
                        self.assertEqual(chance_at(family, bead, other, steps), share(chance))

    def test_up_to_twelve_steps(self):
        source = random.Random(2)
        for family in SMALL[::40] + RANDOM + BIG:
            for steps in (0, 1, 5, 11, 12):
                bead = source.randrange(size_of(family))
                found = chances(family, bead, steps)
                self.assertEqual(sum(found), 1)
                for other, chance in enumerate(found):
                    self.assertEqual(chance_at(family, bead, other, steps), share(chance))

    def test_told_chances(self):
        self.assertEqual(chance_at(WHOLE, 0, 1, 1), (1, 59))
        self.assertEqual(chance_at(WHOLE, 0, 0, 2), (1, 59))
        self.assertEqual([chance_at(STAR, 0, 9, 11), chance_at(STAR, 9, 9, 12)], [(1, 59), (1, 59)])
        self.assertEqual([chance_at(STAR, 0, 0, 12), chance_at(STAR, 0, 0, 11)], [(1, 1), (0, 1)])
        self.assertEqual([chance_at(PATH, 0, 12, 12), chance_at(PATH, 0, 13, 12)], [(1, 2 ** 11), (0, 1)])
        self.assertEqual([chance_at(((0, 1),), 0, other, 12) for other in (0, 1)], [(1, 1), (0, 1)])

    def test_no_step_and_a_bead_with_itself(self):
        for family in SMALL[::9] + BIG:
            size = size_of(family)
            for bead in (0, size - 1):
                self.assertEqual(chance_at(family, bead, bead, 0), (1, 1))
                self.assertEqual(chance_at(family, bead, bead, 1), (0, 1))
                self.assertEqual(chance_at(family, bead, (bead + 1) % size, 0), (0, 1))

    def test_one_step_beyond(self):
        for family in FAMILIES[:4] + BIG:
            for steps in (-1, 13, 14, 200, GREAT):
                check_error(self, BadNumber, chance_at, family, 0, 1, steps)

    def test_mean_steps(self):
        for family in SMALL:
            for goal in range(size_of(family)):
                for bead, mean in enumerate(waits(family, goal)):
                    self.assertEqual(mean_steps(family, bead, goal), share(mean))
        for family in RANDOM[::2] + [RANDOM[1], HALVES]:
            goal = size_of(family) // 3
            for bead, mean in enumerate(waits(family, goal)):
                self.assertEqual(mean_steps(family, bead, goal), share(mean))

    def test_told_means(self):
        self.assertEqual([mean_steps(PATH, 0, bead) for bead in range(60)], [(bead * bead, 1) for bead in range(60)])
        self.assertEqual([mean_steps(PATH, 59, 0), mean_steps(PATH, 1, 0)], [(59 * 59, 1), (2 * 58 + 1, 1)])
        self.assertEqual([mean_steps(STAR, 0, 7), mean_steps(STAR, 7, 0), mean_steps(STAR, 7, 8)], [(117, 1), (1, 1), (118, 1)])
        self.assertEqual([mean_steps(WHOLE, 0, 59), mean_steps(((0, 1),), 0, 1)], [(59, 1), (1, 1)])

    def test_stay_share(self):
        for family in SMALL + RANDOM + BIG:
            size = size_of(family)
            whole = sum(len(beside(family, bead)) for bead in range(size))
            for bead in range(size):
                self.assertEqual(stay_share(family, bead), share(Fraction(len(beside(family, bead)), whole)))
            self.assertEqual(sum(Fraction(*stay_share(family, bead)) for bead in range(size)), 1)
        self.assertEqual([stay_share(STAR, 0), stay_share(STAR, 1), stay_share(WHOLE, 0)], [(1, 2), (1, 118), (1, 60)])

    def test_resistance(self):
        source = random.Random(3)
        for family in SMALL + RANDOM + BIG:
            size = size_of(family)
            beads = range(size) if size < 6 else source.sample(range(size), 5)
            for one in beads:
                for other in beads:
                    expected = sum(Fraction(2, len(bag)) for bag in bags_between(family, one, other))
                    self.assertEqual(resistance(family, one, other), share(expected))
        self.assertEqual([resistance(PATH, 0, 59), resistance(WHOLE, 0, 1), resistance(HALVES, 0, 59)], [(59, 1), (1, 30), (61, 465)])

    def test_there_and_back_again(self):
        # The mean way there and back is the resistance times the sum of all numbers of neighbors.
        for family in RANDOM + BIG:
            size = size_of(family)
            for one, other in ((0, size - 1), (1, size // 2), (2, 3)):
                both = Fraction(*mean_steps(family, one, other)) + Fraction(*mean_steps(family, other, one))
                self.assertEqual(both, sum(neighbors(family)) * Fraction(*resistance(family, one, other)))

    def test_a_bead_with_itself(self):
        for family in SMALL + RANDOM + BIG:
            for bead in (0, size_of(family) - 1):
                self.assertEqual(mean_steps(family, bead, bead), (0, 1))
                self.assertEqual(resistance(family, bead, bead), (0, 1))

    def test_lowest_terms(self):
        for family in SMALL + RANDOM + BIG:
            last = size_of(family) - 1
            found = [chance_at(family, 0, last, steps) for steps in (0, 1, 2, 11, 12)]
            found += [mean_steps(family, 0, last), mean_steps(family, last, 0), mean_steps(family, 0, 0)]
            found += [stay_share(family, last), resistance(family, 0, last), resistance(family, last, last)]
            for value in found:
                self.assertEqual([type(value), type(value[0]), type(value[1])], [tuple, int, int])
                self.assertEqual(gcd(*value), 1)
                self.assertGreater(value[1], 0)
                self.assertTrue(value[0] > 0 or value == (0, 1))


class WrongTest(unittest.TestCase):
    def test_no_families(self):
        for told in ((0, 1, 2), (None, None, None), (True, -1, "2"), ((), [], {})):
            for value in NO_BAGS[::3]:
                check_error(self, BadBags, count_walks, value, *told)
                check_error(self, BadBags, chance_at, value, *told)
            for value in NO_FAMILIES[::3]:
                check_error(self, BadFamily, walk_counts, value, *told[1:])
                check_error(self, BadFamily, mean_steps, value, *told[1:])

    def test_the_leftmost_comes_first(self):
        for value in OTHER_KINDS + [-1, -GREAT, 60, 201, GREAT, (), (0,), ((0, 1),)]:
            for family in FAMILIES:
                for function in (count_walks, chance_at):
                    check_error(self, BadBead, function, family, value, value, value)
                    check_error(self, BadBead, function, family, value, 0, -1)
                    check_error(self, BadBead, function, family, 0, value, -1)
                    check_error(self, BadNumber, function, family, 0, 1, value if value != 60 else 201)
                for function in (mean_steps, resistance):
                    check_error(self, BadBead, function, family, value, 0)
                    check_error(self, BadBead, function, family, 0, value)
                check_error(self, BadBead, walk_counts, family, value, value)
                check_error(self, BadNumber, walk_counts, family, 1, value if value != 60 else 201)
                check_error(self, BadBead, stay_share, family, value)
        for family in FAMILIES[:7]:
            for bead in (size_of(family), size_of(family) + 1, 59):
                check_error(self, BadBead, walk_counts, family, bead, 0)
                check_error(self, BadBead, mean_steps, family, 0, bead)
                check_error(self, BadBead, resistance, family, bead, 0)


if __name__ == "__main__":
    unittest.main()
