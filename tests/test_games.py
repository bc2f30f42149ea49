"""Point 19: two players who pour in turn, and a pourer against a parter."""

import random
import unittest
from functools import lru_cache
from itertools import combinations, product

from sharebags.errors import BadBags, BadBead, BadFamily, BadNumber, TooGreat
from sharebags.games import both_win, first_wins, game_value, play_lengths, pourer_wins, stops, winning_pours
from tests import naive
from tests.calls import check_error, check_lists_are_new
from tests.samples import HALVES, LAST_STAR, PATH, STAR, WHOLE, random_family, size_of
from tests.wrong import FAMILIES, GREAT, NO_BAGS, NO_FAMILIES, OTHER_KINDS

SMALL = [family for size in range(2, 6) for family in naive.families(size)]
PATH_OF_8 = PATH[:8]
STAR_OF_8 = STAR[:8]
LONG = tuple(tuple(range(7 * k, 7 * k + 8)) for k in range(8))
# Eight bags of 7 or 8 beads at one bead: 57 beads.
FLOWER = tuple((0, *range(7 * k + 1, 7 * k + 8)) for k in range(8))
FAMILY = ((0, 1), (1, 2), (2, 3))


def few_bags(source, size, bags):
    """A random family with so many beads and bags."""
    family = random_family(source, size)
    while len(family) > bags:
        family = source.choice(naive.poured(family))
    return family if len(family) == bags else few_bags(source, size, bags)


RANDOM = [few_bags(random.Random(seed), size, bags) for seed in range(2) for size in (9, 14, 60) for bags in (4, 5)]
EIGHT = [few_bags(random.Random(seed), size, 8) for seed in range(2) for size in (12, 20, 60)]


@lru_cache(maxsize=None)
def behind(family, most):
    """The families behind one allowed pouring, by the ascending pair of indexes that is poured."""
    found = {}
    for i, j in combinations(range(len(family)), 2):
        whole = set(family[i]) | set(family[j])
        if set(family[i]) & set(family[j]) and len(whole) <= most:
            rest = [family[k] for k in range(len(family)) if k not in (i, j)]
            found[(i, j)] = tuple(sorted([*rest, tuple(sorted(whole))]))
    return found


@lru_cache(maxsize=None)
def wins(families, most):
    """Whether who is to pour in one of several families can win."""
    for k, family in enumerate(families):
        for other in behind(family, most).values():
            if not wins(tuple(sorted(families[:k] + (other,) + families[k + 1:])), most):
                return True
    return False


def plays(family, most):
    """All plays one by one, as tuples of families."""
    rows = behind(family, most).values()
    return [(family, *play) for other in rows for play in plays(other, most)] or [(family,)]


@lru_cache(maxsize=None)
def value(family, most):
    met = {value(other, most) for other in behind(family, most).values()}
    return next(number for number in range(len(met) + 1) if number not in met)


def together(family, one, other):
    return any(one in bag and other in bag for bag in family)


@lru_cache(maxsize=None)
def brings(family, one, other, turns, pouring):
    """Whether the pourer brings two beads together, by the words of the document, turn by turn."""
    if together(family, one, other):
        return True
    if turns == 0:
        return False
    if pouring:
        return any(brings(coarse, one, other, turns - 1, False) for coarse in naive.poured(family))
    fines = naive.parted(family) or (family,)
    return all(brings(fine, one, other, turns - 1, True) for fine in fines)


class GamesTest(unittest.TestCase):
    def check_all(self, family, most):
        """Check the answers against all plays of a family."""
        self.assertEqual(game_value(family, most), value(family, most))
        self.assertIs(first_wins(family, most), wins((family,), most))
        expected = [pair for pair, other in behind(family, most).items() if not wins((other,), most)]
        self.assertEqual(winning_pours(family, most), sorted(expected))
        self.assertIs(bool(expected), first_wins(family, most))
        found = plays(family, most)
        lengths = [len(play) - 1 for play in found]
        self.assertEqual(play_lengths(family, most), (min(lengths), max(lengths)))
        self.assertEqual(stops(family, most), sorted({play[-1] for play in found}))

    def test_plays_one_by_one(self):
        for family in SMALL:
            for most in (2, 3, 4, 5, 6):
                self.check_all(family, most)

    def test_more_beads(self):
        for family in RANDOM:
            for most in (2, 3, size_of(family) // 2, size_of(family) - 1, 60):
                self.check_all(family, most)

    def test_eight_bags(self):
        for family in EIGHT + [PATH_OF_8, STAR_OF_8, LONG, FLOWER]:
            size = size_of(family)
            for most in (2, 4, 5, size // 3, size // 2, size - 1, 60):
                if 2 <= most <= 60:
                    self.assertEqual(game_value(family, most), value(family, most))
                    self.assertIs(first_wins(family, most), value(family, most) != 0)
                    expected = [pair for pair, other in behind(family, most).items() if value(other, most) == 0]
                    self.assertEqual(winning_pours(family, most), sorted(expected))
                    found = reached(family, most)
                    self.assertEqual(stops(family, most), sorted(f for f in found if not behind(f, most)))
                    lengths = [8 - len(f) for f in found if not behind(f, most)]
                    self.assertEqual(play_lengths(family, most), (min(lengths), max(lengths)))

    def test_no_limit(self):
        # Each play has a pouring for each bag but one.
        for family in RANDOM + EIGHT + [PATH_OF_8, STAR_OF_8, LONG, FLOWER, WHOLE, HALVES] + SMALL[::20]:
            bags = len(family)
            self.assertEqual(game_value(family, 60), (bags - 1) % 2)
            self.assertIs(first_wins(family, 60), bags % 2 == 0)
            self.assertEqual(play_lengths(family, 60), (bags - 1, bags - 1))
            self.assertEqual(stops(family, 60), [(tuple(range(size_of(family))),)])
            pairs = [pair for pair in combinations(range(bags), 2) if set(family[pair[0]]) & set(family[pair[1]])]
            self.assertEqual(winning_pours(family, 60), pairs if bags % 2 == 0 else [])

    def test_nothing_can_be_poured(self):
        for family, most in ((PATH_OF_8, 2), (STAR_OF_8, 2), (((0, 1),), 2), (WHOLE, 2), (WHOLE, 60), (LONG, 14), (FLOWER, 8), (HALVES, 59)):
            self.assertEqual(game_value(family, most), 0)
            self.assertIs(first_wins(family, most), False)
            self.assertEqual(winning_pours(family, most), [])
            self.assertEqual([play_lengths(family, most), stops(family, most)], [(0, 0), [family]])
        self.assertEqual([play_lengths(LONG, 15), play_lengths(FLOWER, 15)[1], play_lengths(HALVES, 60)], [(3, 4), 4, (1, 1)])

    def test_bags_that_are_too_great_already(self):
        # No bag comes to more than 3 beads: the bag of 4 stays as it is.
        family = ((0, 1, 2, 3), (3, 4), (4, 5), (5, 6))
        self.assertEqual(game_value(family, 3), 1)
        self.assertEqual(winning_pours(family, 3), [(1, 2), (2, 3)])
        self.assertEqual(stops(family, 3), [((0, 1, 2, 3), (3, 4), (4, 5, 6)), ((0, 1, 2, 3), (3, 4, 5), (5, 6))])
        self.assertEqual([play_lengths(family, 2), stops(family, 2)], [(0, 0), [family]])
        for family in RANDOM:
            for most in range(2, max(map(len, family)) + 1):
                self.assertEqual(game_value(family, most), value(family, most))
                self.assertTrue(all(set(big) in map(set, stop) for stop in stops(family, most) for big in family if len(big) >= most))

    def test_told_values(self):
        # Each pouring uses up two pairs: neighbors in the row (known as Dawson's Kayles), any two at one bead.
        self.assertEqual([game_value(PATH[:k], 3) for k in range(1, 9)], [0, 1, 1, 2, 0, 3, 1, 1])
        self.assertEqual([game_value(STAR[:k], 3) for k in range(1, 9)], [0, 1, 1, 0, 0, 1, 1, 0])
        self.assertEqual([play_lengths(PATH_OF_8, 3), play_lengths(STAR_OF_8, 3)], [(3, 4), (4, 4)])
        self.assertEqual([len(stops(STAR_OF_8, 3)), len(stops(STAR_OF_8, 60))], [105, 1])

    def test_both_win(self):
        for most in (2, 3, 4):
            for one, other in product(SMALL[:33:2] + SMALL[33::60], repeat=2):
                self.assertIs(both_win(one, other, most), wins(tuple(sorted((one, other))), most))
        for one, other in product(RANDOM[::5] + EIGHT[:1] + [FAMILY, WHOLE], repeat=2):
            for most in (3, 7, 60):
                self.assertIs(both_win(one, other, most), value(one, most) != value(other, most))
        for family in EIGHT + [PATH_OF_8, STAR_OF_8, LONG]:
            for most in (3, 12):
                self.assertIs(both_win(family, family, most), False)
                self.assertIs(both_win(family, ((0, 1),), most), first_wins(family, most))
                self.assertIs(both_win(WHOLE, family, most), first_wins(family, most))

    def test_lists_are_new(self):
        calls = [
            lambda: winning_pours(FAMILY, 3), lambda: stops(FAMILY, 3), lambda: stops(((0, 1),), 3), lambda: stops(FAMILY, 60),
            lambda: winning_pours(STAR_OF_8, 60),
        ]
        check_lists_are_new(self, calls)


def reached(family, most):
    """All families that plays come to."""
    found = {family}
    fresh = [family]
    for coarse in fresh:
        new = set(behind(coarse, most).values()) - found
        found |= new
        fresh += sorted(new)
    return found


class PourerTest(unittest.TestCase):
    def test_turn_by_turn(self):
        for family in SMALL[:33] + SMALL[33::4]:
            for one, other in product(range(size_of(family)), repeat=2):
                for turns in range(9) if size_of(family) < 5 else (0, 1, 2, 3, 8):
                    self.assertIs(pourer_wins(family, one, other, turns), brings(family, one, other, turns, True))

    def test_six_beads(self):
        source = random.Random(1)
        for bags in range(1, 6):
            family = few_bags(source, 6, bags)
            for one, other in combinations(range(6), 2):
                for turns in (0, 1, 2, 3, 8) if bags > 3 else range(9):
                    self.assertIs(pourer_wins(family, one, other, turns), brings(family, one, other, turns, True))

    def test_together_at_the_beginning(self):
        for family in SMALL[::7] + [PATH[:5], STAR[:5], ((0, 1, 2, 3, 4, 5),)]:
            for turns in (0, 1, 8):
                for bag in family:
                    self.assertIs(pourer_wins(family, bag[0], bag[-1], turns), True)
                    self.assertIs(pourer_wins(family, bag[-1], bag[0], turns), True)
                for bead in range(size_of(family)):
                    self.assertIs(pourer_wins(family, bead, bead, turns), True)

    def test_one_turn_and_none(self):
        self.assertEqual([pourer_wins(PATH[:5], 0, 2, turns) for turns in (0, 1, 2)], [False, True, True])
        self.assertEqual([pourer_wins(PATH[:5], 0, 3, turns) for turns in range(9)], [False] * 9)
        self.assertIs(pourer_wins(PATH[:5], 0, 5, 8), False)
        self.assertEqual([pourer_wins(STAR[:5], 1, 5, turns) for turns in (0, 1)], [False, True])

    def test_seven_beads_and_nine_turns(self):
        for family in (PATH[:6], STAR[:6], ((0, 1, 2, 3, 4, 5, 6),), PATH, STAR, WHOLE, HALVES):
            for told in ((0, 1, 0), (None, 1, 0), (0, -1, 0), (0, 1, 9), ("", [], {}), (GREAT, GREAT, GREAT)):
                self.assertEqual(check_error(self, TooGreat, pourer_wins, family, *told).most, 6)
        for family in (PATH[:5], STAR[:5], FAMILY, ((0, 1, 2, 3, 4, 5),)):
            for turns in (-1, 9, 10, 200, GREAT, -GREAT):
                check_error(self, BadNumber, pourer_wins, family, 0, 1, turns)
            for bead in (size_of(family), 6, 59, -1, GREAT):
                check_error(self, BadBead, pourer_wins, family, bead, 0, 9)
                check_error(self, BadBead, pourer_wins, family, 0, bead, 9)


class WrongTest(unittest.TestCase):
    ONE = [game_value, first_wins, winning_pours, play_lengths, stops]

    def test_eight_bags_and_nine(self):
        for function in self.ONE:
            for family in (PATH_OF_8, STAR_OF_8, LONG, FLOWER):
                function(family, 3)
            for family in (PATH[:9], STAR[:9], PATH, STAR, LAST_STAR, LONG[:7] + ((49, 50), (50, 51))):
                for most in (3, 2, 1, 61, None, True, "3", [], (3,)):
                    self.assertEqual(check_error(self, TooGreat, function, family, most).most, 8)

    def test_behind_bad_family(self):
        for family in (PATH[1:12], PATH[:9] + PATH[10:20], PATH[:9] + ((8, 9, 10),), tuple(sorted(PATH[:11] + ((0, 11),)))):
            for function in self.ONE:
                check_error(self, BadFamily, function, family, None)
            check_error(self, BadFamily, both_win, family, PATH, 3)
            check_error(self, BadFamily, both_win, FAMILY, family, 3)
            check_error(self, BadFamily, pourer_wins, family, 0, 1, 0)
        for bags in (list(PATH), PATH + ((58, 60),), PATH[::-1], PATH + PATH[:1]):
            for function in self.ONE:
                check_error(self, BadBags, function, bags, 0)
            check_error(self, BadBags, both_win, bags, PATH, 3)
            check_error(self, BadBags, both_win, FAMILY, bags, 3)
            check_error(self, BadBags, pourer_wins, bags, 0, 1, 0)

    def test_both_families(self):
        nine = PATH[:9]
        for most in (3, 1, None, GREAT):
            self.assertEqual(check_error(self, TooGreat, both_win, nine, FAMILY, most).most, 8)
            self.assertEqual(check_error(self, TooGreat, both_win, FAMILY, nine, most).most, 8)
            check_error(self, TooGreat, both_win, nine, NO_FAMILIES[0], most)
            check_error(self, TooGreat, both_win, nine, None, most)
            check_error(self, BadFamily, both_win, NO_FAMILIES[0], nine, most)
            check_error(self, BadBags, both_win, None, nine, most)
            check_error(self, BadBags, both_win, nine[:8], [], most)
            for value in NO_BAGS[::4]:
                check_error(self, BadBags, both_win, value, NO_FAMILIES[0], most)
                check_error(self, BadBags, both_win, FAMILY, value, most)
            for value in NO_FAMILIES[::3]:
                check_error(self, BadFamily, both_win, value, None, most)
                check_error(self, BadFamily, both_win, FAMILY, value, most)

    def test_most(self):
        for family in FAMILIES[:7] + [WHOLE, LONG, FLOWER]:
            for value in OTHER_KINDS + [-GREAT, -2, -1, 0, 1, 61, 62, GREAT, (), (3,), ((0, 1),)]:
                for function in self.ONE:
                    check_error(self, BadNumber, function, family, value)
                check_error(self, BadNumber, both_win, family, family, value)
                check_error(self, BadNumber, both_win, ((0, 1),), family, value)
            for most in (2, 60):
                self.assertIs(type(game_value(family, most)), int)


if __name__ == "__main__":
    unittest.main()
