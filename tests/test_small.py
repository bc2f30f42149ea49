"""Point 21: all families of few beads, and spheres around a family."""

import unittest
from collections import Counter

from sharebags.codes import family_number
from sharebags.errors import BadBags, BadFamily, BadNumber, TooGreat
from sharebags.orders import distance
from sharebags.shapes import shape
from sharebags.small import all_families, families_with, farthest, farthest_pairs, shapes, sphere, sphere_sizes
from tests import naive
from tests.calls import check_error, check_lists_are_new
from tests.samples import HALVES, LAST_STAR, PATH, STAR, WHOLE, size_of
from tests.wrong import FAMILIES, GREAT, INTEGERS, NO_BAGS, NO_FAMILIES, OTHER_KINDS

SMALL = [family for size in range(2, 6) for family in naive.families(size)]
SEVEN = [PATH[:6], STAR[:6], ((0, 1, 2, 3, 4, 5, 6),), ((0, 1, 2, 3), (3, 4, 5, 6))]


def slow_spheres(family, size):
    """The ascending lists of the families 0, 1, .., size moves away."""
    found = [[] for _ in range(size + 1)]
    for other, far in naive.distances(family).items():
        if far <= size:
            found[far].append(other)
    return [sorted(families) for families in found]


class FamiliesTest(unittest.TestCase):
    def test_all_families(self):
        for size in range(2, 6):
            self.assertEqual(all_families(size), list(naive.families(size)))
        self.assertEqual([len(all_families(size)) for size in range(2, 6)], [1, 4, 29, 311])
        self.assertEqual(all_families(2), [((0, 1),)])

    def test_families_by_their_numbers(self):
        for size in range(2, 6):
            for bags in range(1, size):
                expected = [family for family in naive.families(size) if len(family) == bags]
                found = families_with(size, bags)
                self.assertEqual(found, sorted(expected, key=naive.code_place))
                self.assertEqual([family_number(family) for family in found], list(range(len(found))))
        self.assertEqual([len(families_with(5, bags)) for bags in range(1, 5)], [1, 35, 150, 125])
        self.assertEqual([families_with(2, 1), families_with(5, 1)], [[((0, 1),)], [((0, 1, 2, 3, 4),)]])

    def test_shapes(self):
        for size in range(2, 6):
            expected = Counter(shape(family) for family in naive.families(size))
            self.assertEqual(shapes(size), tuple(sorted(expected.items())))
        self.assertEqual(shapes(2), (("[()()]", 1),))
        self.assertEqual(dict(shapes(4)), {"([()][()][()])": 4, "[([()])([()])]": 12, "([()()][()])": 12, "[()()()()]": 1})
        self.assertEqual([len(shapes(size)) for size in range(2, 6)], [1, 2, 4, 9])

    def test_farthest_pairs(self):
        for size in range(2, 5):
            found = [far for family in naive.families(size) for far in naive.distances(family).values()]
            self.assertEqual(farthest_pairs(size), (max(found), found.count(max(found))))
        self.assertEqual([farthest_pairs(2), farthest_pairs(3), farthest_pairs(4)], [(0, 1), (2, 6), (4, 168)])

    def test_farthest(self):
        for family in SMALL:
            found = list(naive.distances(family).values())
            self.assertEqual(farthest(family), (max(found), found.count(max(found))))
        self.assertEqual([farthest(((0, 1),)), farthest(((0, 1, 2, 3, 4),))], [(0, 1), (3, 125)])

    def test_lists_are_new(self):
        calls = [
            lambda: all_families(2), lambda: all_families(5), lambda: families_with(2, 1), lambda: families_with(5, 3),
            lambda: sphere(((0, 1),), 0), lambda: sphere(PATH[:5], 1), lambda: sphere(PATH[:5], 6),
        ]
        check_lists_are_new(self, calls)
        empty = sphere(((0, 1),), 1)
        empty.append(None)
        self.assertEqual(sphere(((0, 1),), 1), [])


class SpheresTest(unittest.TestCase):
    def test_families_of_few_beads(self):
        for family in SMALL:
            for size in range(7):
                found = slow_spheres(family, size)
                self.assertEqual(sphere(family, size), found[-1])
                self.assertEqual(sphere_sizes(family, size), tuple(map(len, found)))

    def test_six_beads(self):
        for family in naive.families(6)[::400] + (PATH[:5], STAR[:5], ((0, 1, 2, 3, 4, 5),)):
            found = slow_spheres(family, 6)
            self.assertEqual(sphere_sizes(family, 6), tuple(map(len, found)))
            for size in (0, 1, 3, 6):
                self.assertEqual(sphere(family, size), found[size])
                self.assertEqual(sphere_sizes(family, size), tuple(map(len, found[: size + 1])))
        self.assertEqual(sphere_sizes(((0, 1, 2, 3, 4, 5),), 6), (1, 90, 900, 2160, 1296, 0, 0))
        self.assertTrue(all(distance(PATH[:5], other) == 6 for other in sphere(PATH[:5], 6)[::40]))

    def test_none_so_far_away(self):
        self.assertEqual([sphere(((0, 1),), size) for size in range(7)], [[((0, 1),)]] + [[]] * 6)
        self.assertEqual(sphere_sizes(((0, 1),), 6), (1, 0, 0, 0, 0, 0, 0))
        self.assertEqual([sphere(((0, 1), (1, 2)), 3), sphere_sizes(((0, 1), (1, 2)), 3)], [[], (1, 1, 2, 0)])

    def test_no_move(self):
        for family in SMALL[::9] + [PATH[:5], STAR[:5]]:
            self.assertEqual([sphere(family, 0), sphere_sizes(family, 0)], [[family], (1,)])


class WrongTest(unittest.TestCase):
    def test_sizes(self):
        for value in OTHER_KINDS + INTEGERS + [3, 4, 5, 6, 7, (), (3,), ((0, 1),)]:
            good = type(value) is int and 2 <= value <= 5
            for function in (all_families, shapes, farthest_pairs):
                if not good:
                    check_error(self, BadNumber, function, value)
            if not good:
                for bags in (1, 0, None, value):
                    check_error(self, BadNumber, families_with, value, bags)
        for function in (all_families, shapes):
            function(5)
            check_error(self, BadNumber, function, 6)
            check_error(self, BadNumber, function, 1)
        farthest_pairs(4)
        for value in (1, 5, 6):
            check_error(self, BadNumber, farthest_pairs, value)

    def test_numbers_of_bags(self):
        for size in range(2, 6):
            for value in OTHER_KINDS + [-GREAT, -1, 0, size, size + 1, 60, GREAT, (), (1,), ((0, 1),)]:
                check_error(self, BadNumber, families_with, size, value)
            self.assertEqual([len(families_with(size, 1)), len(families_with(size, size - 1))], [1, size ** (size - 2)])

    def test_more_beads(self):
        for family in (PATH[:5], STAR[:5], ((0, 1, 2, 3, 4, 5),), *SEVEN, PATH, STAR, LAST_STAR, WHOLE, HALVES):
            self.assertEqual(check_error(self, TooGreat, farthest, family).most, 5)
            if size_of(family) > 6:
                for value in (0, 6, 7, -1, None, True, "", [], GREAT):
                    self.assertEqual(check_error(self, TooGreat, sphere, family, value).most, 6)
                    self.assertEqual(check_error(self, TooGreat, sphere_sizes, family, value).most, 6)

    def test_moves_away(self):
        for family in FAMILIES[:7] + [PATH[:5]]:
            for value in OTHER_KINDS + [-GREAT, -6, -1, 7, 8, 60, GREAT, (), (1,), ((0, 1),)]:
                check_error(self, BadNumber, sphere, family, value)
                check_error(self, BadNumber, sphere_sizes, family, value)

    def test_no_families(self):
        for value in NO_BAGS:
            check_error(self, BadBags, farthest, value)
            for size in (0, 7, None):
                check_error(self, BadBags, sphere, value, size)
                check_error(self, BadBags, sphere_sizes, value, size)
        for value in NO_FAMILIES:
            check_error(self, BadFamily, farthest, value)
            for size in (0, 7, None):
                check_error(self, BadFamily, sphere, value, size)
                check_error(self, BadFamily, sphere_sizes, value, size)


if __name__ == "__main__":
    unittest.main()
