"""Point 22: shortest ways with no greater bag on them than a limit allows."""

import random
import unittest
from copy import deepcopy
from functools import lru_cache
from itertools import product

from sharebags.errors import BadBags, BadFamily, BadNumber, OtherBeads, TooGreat
from sharebags.limits import distance_within, shows_way_within, way_within, within_sizes
from tests import naive
from tests.calls import check_error, check_lists_are_new
from tests.samples import PATH, STAR, WHOLE, size_of
from tests.wrong import FAMILIES, GREAT, INTEGERS, NO_BAGS, NO_FAMILIES, OTHER_KINDS

SMALL = [family for size in range(2, 6) for family in naive.families(size)]
ONE, OTHER, ALL = ((0, 1), (1, 2)), ((0, 2), (1, 2)), ((0, 1, 2),)
FAMILY = ((0, 1), (1, 2), (2, 3))
STEP = ((0, 1, 2), (2, 3))
SIX = [PATH[:5], STAR[:5], ((0, 1, 2, 3, 4, 5),), ((0, 1, 2), (2, 3), (3, 4, 5))]


def fits(family, most):
    return all(len(bag) <= most for bag in family)


@lru_cache(maxsize=None)
def distances(family, most):
    """For each family that is come to within the limit the fewest moves to it."""
    found, fresh = {family: 0}, [family]
    for near in fresh:
        for other in naive.poured(near) + naive.parted(near):
            if fits(other, most) and other not in found:
                found[other] = found[near] + 1
                fresh.append(other)
    return found


def is_way(one, other, most, steps):
    """Whether families lead by single moves within the limit from one to other."""
    if steps[0] != one or steps[-1] != other or not all(fits(family, most) for family in steps):
        return False
    return all(steps[k + 1] in naive.poured(steps[k]) + naive.parted(steps[k]) for k in range(len(steps) - 1))


def shortest_ways(one, other):
    """All shortest ways from one to other without a limit, as lists of families."""
    if one == other:
        return [[one]]
    far = naive.distances(other)
    near = [family for family in naive.poured(one) + naive.parted(one) if far[family] < far[one]]
    return [[one, *steps] for family in near for steps in shortest_ways(family, other)]


def some_cases(source, many):
    """Pairs of families of 5 beads with a limit that both keep to, and all of 2 to 4 beads."""
    for size in range(2, 5):
        for one, other in product(naive.families(size), repeat=2):
            for most in range(2, 6):
                if fits(one, most) and fits(other, most):
                    yield one, other, most
    for _ in range(many):
        most = source.randint(2, 5)
        one, other = [source.choice([family for family in naive.families(5) if fits(family, most)]) for _ in range(2)]
        yield one, other, most


class WithinTest(unittest.TestCase):
    def test_distances_and_ways(self):
        for one, other, most in some_cases(random.Random(1), 300):
            expected = distances(one, most).get(other)
            self.assertEqual(distance_within(one, other, most), expected)
            steps = way_within(one, other, most)
            if expected is None:
                self.assertIsNone(steps)
                for value in (None, [one, other], [one], []):
                    self.assertIs(shows_way_within(one, other, most, value), False)
            else:
                self.assertIs(type(steps), list)
                self.assertEqual(len(steps), expected + 1)
                self.assertTrue(is_way(one, other, most, steps))
                self.assertIs(shows_way_within(one, other, most, steps), True)

    def test_sizes(self):
        for family in SMALL:
            for most in range(2, 6):
                if fits(family, most):
                    found = list(distances(family, most).values())
                    self.assertEqual(within_sizes(family, most), tuple(found.count(k) for k in range(max(found) + 1)))
        self.assertEqual([within_sizes(((0, 1),), 2), within_sizes(((0, 1),), 5)], [(1,), (1,)])
        self.assertEqual([within_sizes(PATH[:4], 2), within_sizes(STAR[:4], 2)], [(1,), (1,)])
        self.assertEqual([sum(within_sizes(PATH[:4], most)) for most in (3, 4, 5)], [290, 310, 311])

    def test_no_limit_at_all(self):
        for one in SMALL[::13]:
            for other in naive.families(size_of(one))[::7]:
                self.assertEqual(distance_within(one, other, 5), naive.distances(one)[other])

    def test_a_limit_makes_ways_longer(self):
        one, other = PATH[:4], STAR[:4]
        found = [distance_within(one, other, most) for most in (5, 4, 3, 2)]
        self.assertEqual(found[0], naive.distances(one)[other])
        self.assertEqual(found, [distances(one, most).get(other) for most in (5, 4, 3, 2)])
        self.assertIsNone(found[3])
        families = [family for family in naive.families(4) if fits(family, 3)]
        longer = [(a, b) for a, b in product(families, repeat=2) if distances(a, 3)[b] > naive.distances(a)[b]]
        self.assertGreater(len(longer), 0)
        for a, b in longer:
            self.assertEqual(distance_within(a, b, 3), distances(a, 3)[b])
            # The shortest ways of all leave the limit.
            self.assertIs(shows_way_within(a, b, 3, way_within(a, b, 4)), False)
            self.assertIs(shows_way_within(a, b, 4, way_within(a, b, 3)), False)

    def test_a_family_with_itself(self):
        for family in SMALL[::5]:
            for most in range(max(map(len, family)), 6):
                self.assertEqual([distance_within(family, family, most), way_within(family, family, most)], [0, [family]])
                self.assertIs(shows_way_within(family, family, most, [family]), True)
                self.assertIs(shows_way_within(family, family, most, []), False)
                self.assertIs(shows_way_within(family, family, most, [family, family]), False)

    def test_no_way(self):
        # Each pouring of two pairs makes a bag of three beads.
        for one, other in ((ONE, OTHER), (PATH[:4], STAR[:4]), (FAMILY, ((0, 1), (0, 2), (0, 3)))):
            self.assertEqual([distance_within(one, other, 2), way_within(one, other, 2)], [None, None])
            for value in (None, [], [one], [one, other], [None], [one, ALL, other], (one, other)):
                self.assertIs(shows_way_within(one, other, 2, value), False)
        self.assertEqual([distance_within(ONE, ONE, 2), way_within(ONE, ONE, 2)], [0, [ONE]])

    def test_bags_with_just_so_many_beads(self):
        for size in range(2, 6):
            whole = (tuple(range(size)),)
            for family in naive.families(size)[::3]:
                self.assertEqual(distance_within(family, whole, size), len(family) - 1)
                if size > 2:
                    self.assertEqual(check_error(self, TooGreat, distance_within, family, whole, size - 1).most, size - 1)

    def test_lists_are_new(self):
        calls = [lambda: way_within(ONE, OTHER, 3), lambda: way_within(ONE, ONE, 2), lambda: way_within(FAMILY, STEP, 3)]
        check_lists_are_new(self, calls)


class ShowsTest(unittest.TestCase):
    def test_any_value(self):
        good = [ONE, ALL, OTHER]
        self.assertIs(shows_way_within(ONE, OTHER, 3, good), True)
        wrong = [
            tuple(good), [good], (good,), good[:2], good[1:], [ONE, OTHER], good[::-1], [*good, OTHER], [ONE, *good], [ONE, ALL, ONE],
            [ONE, ALL, ONE, ALL, OTHER], [ONE, None, OTHER], [ONE, list(ALL), OTHER], [ONE, [[0, 1, 2]], OTHER], [None] * 3, [0, 1, 2],
            [list(ONE), ALL, OTHER], [((False, 1), (1, 2)), ALL, OTHER], [((0, True), (1, 2)), ALL, OTHER], [ONE, ((0, True, 2),), OTHER],
            [ONE, ALL, ((0, 2), (True, 2))], [ONE, ((0, 1),), OTHER], [ONE, STEP, OTHER], [ONE, WHOLE, OTHER], [ONE, (), OTHER],
            ["0.1 1.2", "0.1.2", "0.2 1.2"], {0: ONE, 1: ALL, 2: OTHER}, {ONE: ALL}, [{}, {}, {}], [ONE, ((1, 2), (0, 1)), OTHER],
        ]
        for value in wrong + OTHER_KINDS + INTEGERS + NO_BAGS + NO_FAMILIES + FAMILIES:
            before = deepcopy(value)
            for most in (3, 4, 5):
                self.assertIs(shows_way_within(ONE, OTHER, most, value), False, value)
            self.assertEqual(repr(value), repr(before))

    def test_all_ways_of_few_families(self):
        families = naive.families(3)
        for one, other in product(families, repeat=2):
            for most in (2, 3, 4):
                if not (fits(one, most) and fits(other, most)):
                    continue
                expected = distances(one, most).get(other)
                for many in range(5):
                    for steps in product(families, repeat=many):
                        shown = many > 0 and many - 1 == expected and is_way(one, other, most, steps)
                        self.assertIs(shows_way_within(one, other, most, list(steps)), shown)

    def test_ways_that_are_not_shortest(self):
        turned = ((0, 1), (1, 3), (2, 3))
        for steps in ([FAMILY, STEP, FAMILY], [FAMILY, STEP, ((0, 1, 2, 3),), STEP], [FAMILY, ((0, 1), (1, 2, 3)), turned, ((0, 1), (1, 2, 3)), turned]):
            self.assertTrue(is_way(FAMILY, steps[-1], 5, steps))
            self.assertIs(shows_way_within(FAMILY, steps[-1], 5, steps), False)
        self.assertIs(shows_way_within(FAMILY, turned, 3, [FAMILY, ((0, 1), (1, 2, 3)), turned]), True)

    def test_ways_that_leave_the_limit(self):
        one, other = ((0, 1, 2), (2, 3)), ((0, 1, 3), (2, 3))
        steps = [one, ((0, 1, 2, 3),), other]
        self.assertIs(shows_way_within(one, other, 4, steps), True)
        self.assertIs(shows_way_within(one, other, 3, steps), False)
        self.assertEqual([distance_within(one, other, 4), distance_within(one, other, 3)], [2, distances(one, 3)[other]])

    def test_ways_that_are_as_short_but_leave_the_limit(self):
        families = [family for family in naive.families(4) if fits(family, 3)]
        inside, outside = 0, 0
        for one, other in product(families[::4], families):
            if distances(one, 3)[other] == naive.distances(one)[other]:
                for steps in shortest_ways(one, other):
                    shown = all(fits(family, 3) for family in steps)
                    self.assertIs(shows_way_within(one, other, 3, steps), shown)
                    self.assertIs(shows_way_within(one, other, 4, steps), True)
                    inside, outside = inside + shown, outside + (not shown)
        self.assertGreater(min(inside, outside), 20)


class WrongTest(unittest.TestCase):
    CALLS = [
        distance_within, way_within, lambda *told: shows_way_within(*told, None),
        lambda *told: shows_way_within(*told, [told[0]]),
    ]

    def check(self, error, *told):
        """Check an error of all that take two families, and return the fields of the last one."""
        for function in self.CALLS:
            fields = vars(check_error(self, error, function, *told))
        return fields

    def test_no_families(self):
        for most in (3, 1, None):
            for value in NO_BAGS:
                self.check(BadBags, value, FAMILY, most)
                self.check(BadBags, FAMILY, value, most)
                check_error(self, BadBags, within_sizes, value, most)
            for value in NO_FAMILIES:
                self.check(BadFamily, value, FAMILY, most)
                self.check(BadFamily, FAMILY, value, most)
                check_error(self, BadFamily, within_sizes, value, most)

    def test_more_than_five_beads(self):
        for family in SIX + [PATH, STAR, WHOLE]:
            for most in (2, 5, 1, 6, None, True, "3", []):
                for other in (FAMILY, PATH[:4], family, None, NO_FAMILIES[0]):
                    self.assertEqual(self.check(TooGreat, family, other, most), {"most": 5})
                self.assertEqual(self.check(TooGreat, FAMILY, family, most), {"most": 5})
                self.assertEqual(check_error(self, TooGreat, within_sizes, family, most).most, 5)
        self.check(BadFamily, NO_FAMILIES[0], PATH, 3)
        self.check(BadBags, None, PATH, 3)

    def test_most(self):
        for value in OTHER_KINDS + [-GREAT, -3, -1, 0, 1, 6, 7, 60, GREAT, (), (3,), ((0, 1),)]:
            for family in (ONE, FAMILY, ((0, 1, 2, 3, 4),)):
                self.check(BadNumber, family, family, value)
                check_error(self, BadNumber, within_sizes, family, value)
            self.check(BadNumber, ONE, FAMILY, value)
        for most in (2, 5):
            self.assertEqual(distance_within(ONE, ONE, most), 0)

    def test_other_beads(self):
        for one, other in ((ONE, FAMILY), (FAMILY, ONE), (PATH[:4], FAMILY), (((0, 1),), ONE), (ALL, FAMILY), (FAMILY, ALL)):
            for most in (2, 3, 5):
                self.check(OtherBeads, one, other, most)
        # A bag that is too great is found behind other numbers of beads.
        self.check(OtherBeads, ((0, 1, 2, 3, 4),), ALL, 2)

    def test_greater_bags(self):
        for most in range(2, 5):
            for size in range(most + 1, 6):
                whole = (tuple(range(size)),)
                pairs = PATH[: size - 1]
                for one, other in ((whole, pairs), (pairs, whole), (whole, whole)):
                    self.assertEqual(self.check(TooGreat, one, other, most), {"most": most})
                self.assertEqual(check_error(self, TooGreat, within_sizes, whole, most).most, most)
        self.assertEqual(self.check(TooGreat, FAMILY, STEP, 2), {"most": 2})
        self.assertEqual(distance_within(FAMILY, STEP, 3), 1)


if __name__ == "__main__":
    unittest.main()
