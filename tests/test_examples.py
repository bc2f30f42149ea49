"""The examples of the interface, word for word, and those of README.md."""

import unittest
from pathlib import Path

from tests.examples import check_examples, outcome

BAGS = """
>>> from sharebags.bags import bar, beads, degrees, is_family, moves, one_bag, part, parted, pour, poured, pours, sizes
>>> family = ((0, 1, 2), (2, 3))
>>> [beads(family), degrees(family), sizes(family), one_bag(3), pours(family), pour(family, 0, 1), part(family, 0, 2, (0,)), moves(family)]
[4, (1, 1, 2, 1), (2, 3), ((0, 1, 2),), ((0, 1),), ((0, 1, 2, 3),), ((0, 2), (1, 2), (2, 3)), (1, 3)]
>>> [poured(family), parted(family), is_family(((0, 1), (0, 2), (1, 2))), bar(((0, 1), (0, 2), (1, 2))), bar(((0, 1), (3, 4)))]
[[((0, 1, 2, 3),)], [((0, 1), (0, 2), (2, 3)), ((0, 1), (1, 2), (2, 3)), ((0, 2), (1, 2), (2, 3))], False, ('ring', (0, 1, 2)), ('bead', 2)]
>>> pour(family, 0, 0)
raises BadPour()
>>> beads(((0, 1), (0, 2), (1, 2)))
raises BadFamily()
"""

ORDERS = """
>>> from sharebags.orders import distance, greatest_finer, is_coarser, least_coarser, rank, shows_way, way
>>> one, other, whole = ((0, 1), (1, 2)), ((0, 2), (1, 2)), ((0, 1, 2),)
>>> [is_coarser(one, other), least_coarser(one, other), distance(one, other), greatest_finer(one, other), way(one, other), shows_way(one, other, [one, whole, other]), rank(one)]
[False, ((0, 1, 2),), 2, None, [((0, 1), (1, 2)), ((0, 1, 2),), ((0, 2), (1, 2))], True, 1]
>>> distance(((0, 1),), one)
raises OtherBeads()
"""

COUNTS = """
>>> from sharebags.counts import between, between_tally, coarser, coarser_tally
>>> from sharebags.counts import count_between, count_coarser, count_finer, count_ways
>>> from sharebags.counts import families, mobius, steps_up, tally, ways
>>> family, top = ((0, 1, 2), (2, 3)), ((0, 1, 2, 3),)
>>> [count_coarser(family), count_finer(family), coarser(family), coarser_tally(family), steps_up(((0, 1), (1, 2), (2, 3))), families(3), tally(4)]
[2, 4, [((0, 1, 2), (2, 3)), ((0, 1, 2, 3),)], (1, 1), 2, 4, (1, 12, 16)]
>>> [count_between(top, family), between(top, family), between_tally(top, family), count_ways(top, family), ways(top, family), mobius(top, family)]
[2, [((0, 1, 2), (2, 3)), ((0, 1, 2, 3),)], ((1, 1), (2, 1)), 1, [(((0, 1, 2), (2, 3)), ((0, 1, 2, 3),))], -1]
>>> count_ways(family, top)
raises NotCoarser()
"""

CODES = """
>>> from sharebags.codes import code, family_at, family_number, family_of, next_family
>>> family = ((0, 1, 2), (2, 3))
>>> [code(family), family_of((((1, 2), (3,)), (2,))), family_number(family), family_at(4, 2, 3), next_family(family)]
[(((1, 2), (3,)), (2,)), ((0, 1, 2), (2, 3)), 2, ((0, 3), (1, 2, 3)), ((0, 3), (1, 2, 3))]
>>> family_of((((1, 2), (3,)), ()))
raises BadCode()
"""

WAYS = """
>>> from sharebags.ways import bead_way, ends, far, far_from, far_tally, hubs, hull
>>> from sharebags.ways import meeting, middles, nearest, sides, sum_far, sums_far, width
>>> family = ((0, 1), (1, 2, 3), (3, 4))
>>> [bead_way(family, 0, 4), far(family, 0, 4), far_from(family, 0), sides(family, 1), sum_far(family), sums_far(family), width(family), ends(family)]
[(0, 0, 1, 1, 3, 2, 4), 3, (0, 1, 2, 2, 3), (2, 1, 2), 16, (8, 5, 6, 5, 8), 3, (0, 4)]
>>> [middles(family), hubs(family), far_tally(family), meeting(family, 0, 2, 4), hull(family, (0, 2)), nearest(family, 0, (2, 3))]
[(1, 2, 3), (1, 3), (5, 4, 1), ('bag', 1), ((0, 1, 2), (0, 1)), 2]
"""

OUTS = """
>>> from sharebags.outs import hung_on, kept, mended, mending_number, put_into, strung, taken_out
>>> family = ((0, 1, 2), (2, 3))
>>> [taken_out(family, 2), kept(family, (0, 3)), put_into(family, 1), hung_on(family, 0), strung(((0, 1),), ((0, 1, 2),), 1, 0), mended(((0, 1), (0, 2), (1, 2))), mending_number(((0, 1), (0, 2), (1, 2)))]
[((0, 1, 2),), ((0, 1),), ((0, 1, 2), (2, 3, 4)), ((0, 1, 2), (0, 4), (2, 3)), ((0, 1), (1, 2, 3)), ((0, 1, 2),), 2]
>>> taken_out(((0, 1),), 0)
raises BadBead()
"""

PLACES = """
>>> from sharebags.places import coarser_at, coarser_number, finer_at, finer_number, one_place
>>> family = ((0, 1, 2), (2, 3))
>>> [coarser_at(family, 0), coarser_number(family, family), finer_at(family, 0), finer_number(family, ((0, 1), (0, 2), (2, 3))), one_place(family)]
[((0, 1, 2, 3),), 1, ((0, 1, 2), (2, 3)), 1, (2, 4)]
"""

NUMBERS = """
>>> from sharebags.numbers import count_with_bags, count_with_degrees, count_with_sizes, degree_share
>>> from sharebags.numbers import mean_bags, mean_degree, outer_mean, together_share
>>> [count_with_bags(4, 2), count_with_sizes((2, 3)), count_with_degrees((1, 1, 2, 1)), mean_bags(3), mean_degree(4, 2), degree_share(4, 2, 2), outer_mean(4, 2), together_share(3)]
[12, 12, 3, (7, 4), (5, 4), (1, 4), (3, 1), (3, 4)]
>>> count_with_sizes((1, 3))
raises BadSizes()
"""

BAGWAYS = """
>>> from sharebags.bagways import bag_far, bag_way, degree_family, degree_number, gate
>>> family = ((0, 1), (1, 2, 3), (3, 4))
>>> [bag_way(family, 0, 2), bag_far(family, 0, 2), gate(family, 0, 4), degree_family((1, 1, 2, 1), 0), degree_number(((0, 1, 2), (2, 3)))]
[(0, 1, 1, 3, 2), 2, 1, ((0, 1, 2), (2, 3)), 0]
"""

CUTS = """
>>> from sharebags.cuts import connected_sets, cut_beads, fewest_cuts, hang_together, most_even
>>> from sharebags.cuts import outer_bags, without_bag, without_bead, without_beads
>>> family = ((0, 1), (1, 2, 3), (3, 4))
>>> [without_bead(family, 1), without_bag(family, 1), without_beads(family, (1, 3)), cut_beads(family), outer_bags(family), hang_together(family, (1, 2)), fewest_cuts(family, 0, 4), most_even(family), connected_sets(family)]
[[(0,), (2, 3, 4)], [(0, 1), (2,), (3, 4)], [(0,), (2,), (4,)], (1, 3), (0, 2), True, (1, 3), (3, 1), 19]
"""

PAIRS = """
>>> from sharebags.pairs import cheapest, count_pairs, dearest, pair_families, pair_price_sum, shows_cheapest
>>> family = ((0, 1, 2), (2, 3))
>>> prices = ((0, 1, 2, 9), (1, 0, 4, 9), (2, 4, 0, 5), (9, 9, 5, 0))
>>> [count_pairs(family), len(pair_families(family)), cheapest(family, prices)[0], dearest(family, prices), pair_price_sum(family, prices), shows_cheapest(family, prices, ((0, 1), (0, 2), (2, 3)))]
[3, 3, 8, 11, 29, True]
"""

WEIGHTS = """
>>> from sharebags.weights import bag_loads, bead_loads, best_place, count_apart, heaviest_apart
>>> from sharebags.weights import heaviest_joined, least_cover, shows_apart, weighed_pairs, weighed_sums
>>> family = ((0, 1, 2), (2, 3))
>>> weights = (1, 2, 3, 4)
>>> [weighed_sums(family, weights), best_place(family, weights), weighed_pairs(family, weights), heaviest_apart(family, weights), shows_apart(family, weights, (1, 3))]
[(13, 12, 7, 9), (7, 2), 47, (6, (1, 3)), True]
>>> [count_apart(family), least_cover(family, weights), heaviest_joined(family, (1, -5, 2, 4)), bag_loads(family), bead_loads(family)]
[7, 3, 7, (5, 3), (0, 0, 2, 0)]
"""

COLORS = """
>>> from sharebags.colors import alike_pairs, coloring_at, coloring_number, fewest_colors, not_alike, shows_coloring, unlike
>>> family = ((0, 1, 2), (2, 3))
>>> [unlike(family, 3), not_alike(family, 2), fewest_colors(family), coloring_at(family, 3, 0), coloring_number(family, 3, (0, 1, 2, 1)), shows_coloring(family, 3, (0, 0, 1, 2)), alike_pairs(family, (0, 0, 1, 1))]
[12, 6, 3, (0, 1, 2, 0), 1, False, 2]
"""

BLIND = """
>>> from sharebags.blind import chances, last_pair, likeliest, mean_greatest, mean_wait, together_chance
>>> family = ((0, 1), (1, 2), (2, 3))
>>> [chances(family, 1), together_chance(family, 0, 2, 1), mean_wait(family, 0, 3), mean_greatest(family, 1), likeliest(family, 1), last_pair(((0, 1),))]
[((((0, 1), (1, 2, 3)), (1, 2)), (((0, 1, 2), (2, 3)), (1, 2))), (1, 2), (2, 1), (3, 1), ((0, 1), (1, 2, 3)), ()]
"""

WALKS = """
>>> from sharebags.walks import chance_at, count_rounds, count_walks, mean_steps, neighbors, resistance, stay_share, walk_counts
>>> family = ((0, 1, 2), (2, 3))
>>> [count_walks(family, 0, 3, 2), walk_counts(family, 0, 1), count_rounds(family, 2), neighbors(family), resistance(family, 0, 3), mean_steps(family, 3, 2), stay_share(family, 2), chance_at(family, 0, 3, 2)]
[1, (0, 1, 1, 0), 8, (2, 2, 3, 1), (5, 3), (1, 1), (3, 8), (1, 6)]
"""

GAMES = """
>>> from sharebags.games import both_win, first_wins, game_value, play_lengths, pourer_wins, stops, winning_pours
>>> family = ((0, 1), (1, 2), (2, 3))
>>> [game_value(family, 3), first_wins(family, 3), winning_pours(family, 3), play_lengths(family, 3), stops(family, 3), both_win(family, family, 3), pourer_wins(family, 0, 2, 1)]
[1, True, [(0, 1), (1, 2)], (1, 1), [((0, 1), (1, 2, 3)), ((0, 1, 2), (2, 3))], False, True]
"""

MANY = """
>>> from sharebags.many import coarsest_of, common_coarser, common_finer, distances, middle_of
>>> from sharebags.many import nearest_of, round_trip, together_counts, widest_pair
>>> one, other, whole = ((0, 1), (1, 2)), ((0, 2), (1, 2)), ((0, 1, 2),)
>>> [common_coarser((one, other)), common_finer((one, whole)), distances((one, other, whole)), nearest_of(whole, (one, other)), widest_pair((one, other, whole))]
[((0, 1, 2),), ((0, 1), (1, 2)), ((0, 2, 1), (2, 0, 1), (1, 1, 0)), (1, 0), (2, 0, 1)]
>>> [middle_of((one, other, whole)), coarsest_of((one, other, whole)), round_trip((one, other, whole)), together_counts((one, other), 0)]
[(2, 2), (2,), 4, (2, 1, 1)]
"""

SHAPES = """
>>> from sharebags.shapes import copies, heart, kinds, renamed, renamings, same_shape, shape
>>> family = ((0, 1, 2), (2, 3))
>>> [shape(family), renamings(family), copies(family), same_shape(family, ((0, 3), (1, 2, 3))), renamed(family, (3, 2, 1, 0)), heart(family), kinds(family)]
['([()()][()])', 2, 12, True, ((0, 1), (1, 2, 3)), ('bead', 2), ((0, 1), (2,), (3,))]
"""

SMALL = """
>>> from sharebags.small import all_families, families_with, farthest, farthest_pairs, shapes, sphere, sphere_sizes
>>> [len(all_families(3)), families_with(3, 2), sphere_sizes(((0, 1, 2),), 1), len(sphere(((0, 1, 2),), 1)), farthest(((0, 1), (1, 2))), shapes(3), farthest_pairs(3)]
[4, [((0, 1), (0, 2)), ((0, 1), (1, 2)), ((0, 2), (1, 2))], (1, 3), 3, (2, 2), (('([()][()])', 3), ('[()()()]', 1)), (2, 6)]
"""

LIMITS = """
>>> from sharebags.limits import distance_within, shows_way_within, way_within, within_sizes
>>> one, other, whole = ((0, 1), (1, 2)), ((0, 2), (1, 2)), ((0, 1, 2),)
>>> [distance_within(one, other, 3), distance_within(one, other, 2), way_within(one, other, 3), shows_way_within(one, other, 3, [one, whole, other]), within_sizes(one, 2)]
[2, None, [((0, 1), (1, 2)), ((0, 1, 2),), ((0, 2), (1, 2))], True, (1,)]
>>> distance_within(one, whole, 2)
raises TooGreat(most=2)
"""

TEXTS = """
>>> from sharebags.texts import draw, read, write
>>> family = ((0, 1, 2), (2, 3))
>>> [write(family), read("0.1.2 2.3"), draw(family)]
['0.1.2 2.3', ((0, 1, 2), (2, 3)), ('ooo.', '..oo')]
>>> read("0.1 1")
raises InvalidText(place=6)
"""

DESKS = """
>>> from sharebags.desks import Box
>>> box = Box(((0, 1), (1, 2)))
>>> [box.pour(0, 1), box.part(0, 2, (0,)), box.family, box.made, box.wasted(), box.seen(), box.coarsest(), box.open_pairs(), box.undo(), box.family]
[None, None, ((0, 2), (1, 2)), 2, 0, 3, 1, ((0, 1),), None, ((0, 1, 2),)]
>>> box.pour(0, 5)
raises BadPour()
"""


class ExamplesTest(unittest.TestCase):
    def test_bags(self):
        check_examples(self, BAGS)

    def test_orders(self):
        check_examples(self, ORDERS)

    def test_counts(self):
        check_examples(self, COUNTS)

    def test_codes(self):
        check_examples(self, CODES)

    def test_ways(self):
        check_examples(self, WAYS)

    def test_outs(self):
        check_examples(self, OUTS)

    def test_places(self):
        check_examples(self, PLACES)

    def test_numbers(self):
        check_examples(self, NUMBERS)

    def test_bagways(self):
        check_examples(self, BAGWAYS)

    def test_cuts(self):
        check_examples(self, CUTS)

    def test_pairs(self):
        check_examples(self, PAIRS)

    def test_weights(self):
        check_examples(self, WEIGHTS)

    def test_colors(self):
        check_examples(self, COLORS)

    def test_blind(self):
        check_examples(self, BLIND)

    def test_walks(self):
        check_examples(self, WALKS)

    def test_games(self):
        check_examples(self, GAMES)

    def test_many(self):
        check_examples(self, MANY)

    def test_shapes(self):
        check_examples(self, SHAPES)

    def test_small(self):
        check_examples(self, SMALL)

    def test_limits(self):
        check_examples(self, LIMITS)

    def test_texts(self):
        check_examples(self, TEXTS)

    def test_desks(self):
        check_examples(self, DESKS)

    def test_readme(self):
        check_examples(self, (Path(__file__).parent.parent / "README.md").read_text(encoding="utf-8"))

    def test_the_runner_tells_values_errors_and_statements(self):
        names = {}
        self.assertIsNone(outcome("from sharebags.errors import TooMany", names))
        self.assertEqual(outcome("(1, 2)", names), "(1, 2)")
        self.assertEqual(outcome("[].index(1)", names), "raises ValueError()")
        self.assertIsNone(outcome("def fail(): raise TooMany(500)", names))
        self.assertEqual(outcome("fail()", names), "raises TooMany(most=500)")


if __name__ == "__main__":
    unittest.main()
