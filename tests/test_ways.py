"""Points 10 and 11: ways of beads, their lengths, middles and ends, and the sides of a bag."""

import random
import unittest
from itertools import combinations, product

from sharebags.errors import BadBead, BadBeads, BadNumber
from sharebags.ways import bead_way, ends, far, far_from, far_tally, hubs, hull
from sharebags.ways import meeting, middles, nearest, sides, sum_far, sums_far, width
from tests import naive
from tests.samples import PATH, STAR, WHOLE, random_family, size_of
from tests.wrong import FAMILIES

SMALL = [family for size in range(2, 5) for family in naive.families(size)] + list(naive.families(5)[::3])
RANDOM = [random_family(random.Random(seed), size) for seed in range(3) for size in (7, 9, 60)]
ALL = SMALL + RANDOM + [PATH, STAR, WHOLE]
FEW = SMALL + [family for family in RANDOM if max(map(max, family)) < 10]
FAMILY = ((0, 1), (1, 2, 3), (3, 4))


def beads_of(family):
    return range(size_of(family))


def rows_of(family):
    """The distances of all beads by the one way between them."""
    beads = beads_of(family)
    return [[len(naive.all_ways(family, one, other)[0]) // 2 for other in beads] for one in beads]


class WayTest(unittest.TestCase):
    def test_the_only_way(self):
        for family in FEW:
            for one, other in product(beads_of(family), repeat=2):
                found = naive.all_ways(family, one, other)
                self.assertEqual(len(found), 1)
                self.assertEqual(bead_way(family, one, other), found[0])
                self.assertEqual(far(family, one, other), len(found[0]) // 2)

    def test_from_a_bead_to_itself(self):
        for family in ALL + FAMILIES:
            for bead in beads_of(family):
                self.assertEqual(bead_way(family, bead, bead), (bead,))
                self.assertEqual(far(family, bead, bead), 0)

    def test_two_beads(self):
        family = ((0, 1),)
        self.assertEqual((bead_way(family, 0, 1), bead_way(family, 1, 0)), ((0, 0, 1), (1, 0, 0)))
        self.assertEqual((far_from(family, 1), sum_far(family), sums_far(family)), ((1, 0), 1, (1, 1)))
        self.assertEqual((far_tally(family), width(family), ends(family)), ((1,), 1, (0, 1)))
        self.assertEqual((middles(family), hubs(family), sides(family, 0)), ((0, 1), (0, 1), (1, 1)))

    def test_sixty_beads(self):
        expected = [0]
        for k in range(59):
            expected += [k, k + 1]
        self.assertEqual(bead_way(PATH, 0, 59), tuple(expected))
        self.assertEqual(bead_way(PATH, 59, 0), tuple(expected[::-1]))
        self.assertEqual(bead_way(STAR, 59, 1), (59, 58, 0, 0, 1))
        self.assertEqual(bead_way(WHOLE, 59, 1), (59, 0, 1))
        self.assertEqual([far(PATH, 7, 55), far(STAR, 7, 55), far(WHOLE, 7, 55)], [48, 2, 1])
        for family in RANDOM:
            for one, other in product(beads_of(family), [0, 4, 6]):
                steps = bead_way(family, one, other)
                self.assertEqual((steps[0], steps[-1]), (one, other))
                self.assertEqual(len(set(steps[::2])), len(steps[::2]))
                self.assertEqual(len(set(steps[1::2])), len(steps[1::2]))
                for place in range(1, len(steps), 2):
                    self.assertTrue({steps[place - 1], steps[place + 1]} <= set(family[steps[place]]))


class DistancesTest(unittest.TestCase):
    def test_against_all_ways(self):
        for family in ALL:
            rows = rows_of(family) if family in FEW else [list(far_from(family, bead)) for bead in beads_of(family)]
            pairs = {(one, other): rows[one][other] for one, other in combinations(beads_of(family), 2)}
            greatest = max(pairs.values())
            self.assertEqual([far_from(family, bead) for bead in beads_of(family)], [tuple(row) for row in rows])
            self.assertEqual(sum_far(family), sum(pairs.values()))
            self.assertEqual(sums_far(family), tuple(map(sum, rows)))
            expected = tuple(list(pairs.values()).count(k) for k in range(1, greatest + 1))
            self.assertEqual(far_tally(family), expected)
            self.assertEqual(width(family), greatest)
            self.assertEqual(ends(family), min(pair for pair in pairs if pairs[pair] == greatest))
            reach = [max(row) for row in rows]
            self.assertEqual(middles(family), tuple(k for k in beads_of(family) if reach[k] == min(reach)))
            sums = [sum(row) for row in rows]
            self.assertEqual(hubs(family), tuple(k for k in beads_of(family) if sums[k] == min(sums)))

    def test_sixty_beads(self):
        self.assertEqual(far_from(PATH, 0), tuple(range(60)))
        self.assertEqual(far_from(PATH, 59), tuple(range(59, -1, -1)))
        self.assertEqual(far_from(STAR, 7), (1,) + (2,) * 6 + (0,) + (2,) * 52)
        self.assertEqual(far_from(WHOLE, 7), (1,) * 7 + (0,) + (1,) * 52)
        self.assertEqual(sum_far(PATH), sum(k * (60 - k) for k in range(60)))
        self.assertEqual([sum_far(STAR), sum_far(WHOLE)], [59 + 59 * 58, 59 * 30])
        self.assertEqual(sums_far(PATH), tuple(sum(abs(k - j) for j in range(60)) for k in range(60)))
        self.assertEqual([far_tally(PATH), far_tally(STAR), far_tally(WHOLE)],
                         [tuple(range(59, 0, -1)), (59, 59 * 29), (59 * 30,)])
        self.assertEqual([width(PATH), width(STAR), width(WHOLE)], [59, 2, 1])
        self.assertEqual([ends(PATH), ends(STAR), ends(WHOLE)], [(0, 59), (1, 2), (0, 1)])
        self.assertEqual([middles(PATH), middles(STAR), middles(WHOLE)], [(29, 30), (0,), tuple(range(60))])
        self.assertEqual([hubs(PATH), hubs(STAR), hubs(WHOLE)], [(29, 30), (0,), tuple(range(60))])

    def test_middles_are_not_always_hubs(self):
        family = ((0, 1), (1, 2), (2, 3), (3, 4), (4, 5, 6, 7, 8, 9))
        self.assertEqual((middles(family), hubs(family)), ((2, 3), (4,)))


class MeetingTest(unittest.TestCase):
    def test_against_all_ways(self):
        for family in FEW:
            for three in product(beads_of(family), repeat=3):
                steps = [naive.all_ways(family, one, other)[0] for one, other in combinations(three, 2)]
                met = [bead for bead in beads_of(family) if all(bead in way[::2] for way in steps)]
                if met:
                    expected = ("bead", met[0])
                else:
                    (index,) = [k for k in range(len(family)) if all(k in way[1::2] for way in steps)]
                    expected = ("bag", index)
                self.assertEqual(meeting(family, *three), expected, (family, three))
                self.assertLessEqual(len(met), 1)

    def test_equal_beads(self):
        for family in ALL:
            for one, other in product(list(beads_of(family))[:9], repeat=2):
                for three in ((one, one, other), (one, other, one), (other, one, one)):
                    self.assertEqual(meeting(family, *three), ("bead", one))

    def test_sixty_beads(self):
        self.assertEqual(meeting(PATH, 59, 0, 31), ("bead", 31))
        self.assertEqual(meeting(STAR, 59, 1, 31), ("bead", 0))
        self.assertEqual(meeting(WHOLE, 59, 0, 31), ("bag", 0))


class SomeTest(unittest.TestCase):
    def test_nearest(self):
        for family in SMALL + RANDOM:
            beads = list(beads_of(family))[-7:]
            for many in range(1, 4):
                for some in list(combinations(beads, many)) + [tuple(beads_of(family))]:
                    for bead in beads_of(family):
                        expected = min(some, key=lambda other: (far(family, bead, other), other))
                        self.assertEqual(nearest(family, bead, some), expected)
                    if len(beads) > 5 and some[0] % 2:
                        break
        self.assertEqual(nearest(FAMILY, 0, (2, 3)), 2)
        self.assertEqual(nearest(FAMILY, 4, (0, 1, 2)), 1)
        self.assertEqual([nearest(PATH, 30, (29, 31)), nearest(PATH, 30, (28, 31)), nearest(PATH, 0, (59,))], [29, 31, 59])
        self.assertEqual([nearest(STAR, 30, tuple(range(60))), nearest(STAR, 30, (7, 31))], [30, 7])

    def test_hull(self):
        for family in FEW:
            beads = beads_of(family)
            for many in range(1, min(len(beads), 4) + 1):
                for some in combinations(beads, many):
                    steps = [naive.all_ways(family, one, other)[0] for one, other in product(some, repeat=2)]
                    expected = (
                        tuple(sorted({bead for way in steps for bead in way[::2]})),
                        tuple(sorted({index for way in steps for index in way[1::2]})),
                    )
                    self.assertEqual(hull(family, some), expected)

    def test_hull_of_one_bead_and_of_all(self):
        for family in ALL + FAMILIES:
            for bead in beads_of(family):
                self.assertEqual(hull(family, (bead,)), ((bead,), ()))
            self.assertEqual(hull(family, tuple(beads_of(family))), (tuple(beads_of(family)), tuple(range(len(family)))))
        self.assertEqual(hull(PATH, (9, 12)), ((9, 10, 11, 12), (9, 10, 11)))
        self.assertEqual(hull(STAR, (9, 12)), ((0, 9, 12), (8, 11)))
        self.assertEqual(hull(WHOLE, (9, 12)), ((9, 12), (0,)))

    def test_wrong_beads(self):
        # Each value stands behind errors of the family and of the bead.
        for value in [(), (0, 0), (1, 0), (5,), (0, 5), (0, 60), (-1, 0), (0, 1, 2, 3, 4, 5), (True,), (0, True), [0],
                      [0, 1], 0, None, True, "0", ("0",), ((0,),), (0, None), {0: 1}]:
            with self.assertRaises(BadBeads, msg=value):
                hull(FAMILY, value)
            with self.assertRaises(BadBeads, msg=value):
                nearest(FAMILY, 4, value)
            for bead in (5, -1, True, None, (0,), "0"):
                with self.assertRaises(BadBead, msg=value):
                    nearest(FAMILY, bead, value)


class SidesTest(unittest.TestCase):
    def test_against_groups(self):
        for family in ALL + FAMILIES:
            for index, bag in enumerate(family):
                others = family[:index] + family[index + 1:]
                expected = []
                for bead in bag:
                    group = {bead}
                    for _ in others:
                        group |= {other for beside in others if group & set(beside) for other in beside}
                    expected.append(len(group))
                if len(family) < 20 or index % 20 == 0:
                    self.assertEqual(sides(family, index), tuple(expected))
                    self.assertEqual(sum(expected), len(beads_of(family)))

    def test_sixty_beads(self):
        self.assertEqual([sides(PATH, 0), sides(PATH, 19), sides(PATH, 58)], [(1, 59), (20, 40), (59, 1)])
        self.assertEqual([sides(STAR, 0), sides(STAR, 58), sides(WHOLE, 0)], [(59, 1), (59, 1), (1,) * 60])
        for family in (PATH, WHOLE):
            for value in (len(family), -1, 60, True, None, "0", (0,)):
                with self.assertRaises(BadNumber):
                    sides(family, value)


if __name__ == "__main__":
    unittest.main()
