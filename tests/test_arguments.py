"""Point 1: each function by the kinds of its arguments, with wrong values alone and several at once."""

import unittest
from copy import deepcopy
from itertools import product

from sharebags import bags, bagways, blind, codes, colors, counts, cuts, desks, games, limits, many
from sharebags import numbers, orders, outs, pairs, places, shapes, small, texts, walks, ways, weights
from sharebags.bags import degrees, is_family
from sharebags.errors import BadBags, BadBead, BadBeads, BadCode, BadFamily, BadNames, BadNumber, BadPrices, BadSizes
from sharebags.errors import InvalidText, NotText, OtherBeads, TooGreat
from tests.calls import check_error, check_lists_are_new
from tests.samples import PATH, STAR
from tests.test_interface import LISTED
from tests.wrong import FAMILIES, GREAT, INTEGERS, NO_BAGS, NO_FAMILIES, OTHER_KINDS

FAMILY = ((0, 1), (1, 2, 3), (3, 4))
WHOLE = ((0, 1, 2, 3, 4),)
TUPLES = [(), (0,), (1,), (0, 1), ((0,),), ((0, 1),), (None,), (True,), "01"]
NO_BEADS = OTHER_KINDS + TUPLES + [-GREAT, -60, -5, -2, -1, 5, 6, 59, 60, GREAT, FAMILY]
NO_INDEXES = OTHER_KINDS + TUPLES + [-GREAT, -60, -3, -2, -1, 3, 4, 60, GREAT, FAMILY]
NO_TUPLES_OF_BEADS = OTHER_KINDS + INTEGERS + [
    (), (0, 0), (1, 0), (0, 2, 1), (5,), (0, 5), (0, 59), (0, 60), (0, GREAT), (-1,), (-1, 0), (-GREAT, 1), (True,),
    (False,), (False, 1), (0, True), (0, None), (None,), ("0",), (0, "1"), ((0, 1),), ((0,), (1,)), (0, (1,)), ([0, 1],),
    (0, [1]), (0, {}), (0, 1, 2, 3, 4, 5), (4, 3, 2, 1, 0), FAMILY,
]
NO_NUMBERS = OTHER_KINDS + INTEGERS + [
    (), (-1, 2), (-GREAT, 2), (True, 2), (2, True), (2, False), (2, None), (None, 2), ("2", 2), (2, "2"), "22", [2, 2],
    ([2, 2],), ((2, 2),), ((2,), (2,)), (2, (2,)), (2, [2]), (2, {}), {2: 2}, FAMILY,
]
PRICES = tuple(tuple(abs(one - other) for other in range(5)) for one in range(5))
# Of five integers at least one is wrong here, or there are not five.
NO_WEIGHTS = OTHER_KINDS + INTEGERS + [
    (), (3,), (3, 1, 4, 1), (3, 1, 4, 1, 5, 9), [3, 1, 4, 1, 5], (True, 1, 4, 1, 5), (3, 1, 4, 1, False), (3, None, 4, 1, 5),
    (3, 1, 4, 1, "5"), "31415", ((3, 1, 4, 1, 5),), (3, (1,), 4, 1, 5), (3, [1], 4, 1, 5), (3, {}, 4, 1, 5),
    (3, 1, 4, 1, GREAT), (-GREAT, 1, 4, 1, 5), (3, 1, 4, 1, 10 ** 6 + 1), {0: 3, 1: 1, 2: 4, 3: 1, 4: 5}, FAMILY, WHOLE,
]
NO_SIZES = OTHER_KINDS + TUPLES + [-GREAT, -2, -1, 0, 1, 201, 202, 1000, GREAT]

# For each kind of argument a good value, and the wrong ones with their errors, in the order in which they are named.
KINDS = {
    "family": (FAMILY, [(BadBags, NO_BAGS), (BadFamily, NO_FAMILIES)]),
    "whole": (WHOLE, [(BadBags, NO_BAGS), (BadFamily, NO_FAMILIES)]),
    "bags": (FAMILY, [(BadBags, NO_BAGS), (BadFamily, [((1, 2),), ((0, 1), (2, 3)), ((0, 1), (1, 3)), ((0, 59),)])]),
    "bead": (4, [(BadBead, NO_BEADS)]),
    "index": (1, [(BadNumber, NO_INDEXES)]),
    "some": ((0, 3), [(BadBeads, NO_TUPLES_OF_BEADS)]),
    "some, two at least": ((0, 3), [(BadBeads, NO_TUPLES_OF_BEADS + [(0,), (4,)])]),
    "size": (4, [(BadNumber, NO_SIZES)]),
    "size of a family": (4, [(BadNumber, NO_SIZES + [61, 62, 200])]),
    "number of bags": (2, [(BadNumber, OTHER_KINDS + TUPLES + [-1, 0, 4, 5, 60, GREAT])]),
    "number": (11, [(BadNumber, OTHER_KINDS + TUPLES + [-1, -12, 12, 13, GREAT])]),
    "number of coarser ones": (3, [(BadNumber, OTHER_KINDS + TUPLES + [-1, -4, 4, 5, GREAT])]),
    "degree": (2, [(BadNumber, OTHER_KINDS + TUPLES + [-1, 0, 201, 202, GREAT])]),
    "numbers of beads": ((2, 4), [(BadSizes, NO_NUMBERS + [(1, 2), (2, 200), (2,) * 200, (201,), (GREAT,)])]),
    "numbers of bags": ((1, 1, 2, 1), [(BadSizes, NO_NUMBERS + [(0, 1), (1, 201), (1,) * 201, (1, GREAT)])]),
    "degrees": ((1, 1, 2, 1), [(BadSizes, NO_NUMBERS + [(0, 1), (1, 2), (60, 1), (1,) * 61, (1, GREAT), (2,) * 60])]),
    "number of degrees": (2, [(BadNumber, OTHER_KINDS + TUPLES + [-1, -3, 3, 4, GREAT])]),
    "family of few bags": (FAMILY, [(BadBags, NO_BAGS), (BadFamily, NO_FAMILIES), (TooGreat, [PATH, STAR, PATH[:9]])]),
    "pourings": (1, [(BadNumber, OTHER_KINDS + TUPLES + [-1, -3, 3, 4, 8, GREAT])]),
    "prices": (PRICES, [(BadPrices, NO_WEIGHTS + [PRICES[:4], PRICES + PRICES[:1], ((1,) * 5,) * 5, ((0, 1, 1, 1, 2),) * 5])]),
    "weights": ((3, 1, 4, 1, 5), [(BadPrices, NO_WEIGHTS + [(3, 1, 4, 1, -1), (-(10 ** 6),) * 5])]),
    "weights below 0": ((3, -1, 4, -1, 5), [(BadPrices, NO_WEIGHTS + [(3, 1, 4, 1, -1 - 10 ** 6)])]),
    "colors": (3, [(BadNumber, OTHER_KINDS + TUPLES + [-GREAT, -3, -1, 0, 61, 62, GREAT])]),
    "number of unlike ones": (23, [(BadNumber, OTHER_KINDS + TUPLES + [-1, -24, 24, 25, GREAT])]),
    "unlike coloring": ((0, 1, 2, 0, 1), [(BadNumber, NO_WEIGHTS + [(0, 0, 1, 2, 0), (0, 1, 2, 3, 0), (0, 1, 2, 0, 60)])]),
    "coloring": ((0, 0, 1, 0, 59), [(BadNumber, NO_WEIGHTS + [(0, 0, 0, 0, 60), (0, 0, 0, -1, 0)])]),
    "anything": (None, []),
    "steps": (7, [(BadNumber, OTHER_KINDS + TUPLES + [-GREAT, -7, -1, 201, 202, 1000, GREAT])]),
    "few steps": (7, [(BadNumber, OTHER_KINDS + TUPLES + [-GREAT, -7, -1, 13, 14, 200, GREAT])]),
    "most": (3, [(BadNumber, OTHER_KINDS + TUPLES + [-GREAT, -3, -1, 0, 1, 61, 62, GREAT])]),
    "family of few beads": (FAMILY, [(BadBags, NO_BAGS), (BadFamily, NO_FAMILIES), (TooGreat, [PATH, STAR, PATH[:6]])]),
    "turns": (3, [(BadNumber, OTHER_KINDS + TUPLES + [-GREAT, -3, -1, 9, 10, GREAT])]),
    "families": ((FAMILY, WHOLE, FAMILY), [
        (BadNumber, OTHER_KINDS + INTEGERS + [(), [FAMILY, WHOLE], (FAMILY,) * 21, (None,) * 21, {FAMILY: WHOLE}]),
        (BadBags, [(value,) for value in NO_BAGS] + [(FAMILY, value, NO_FAMILIES[0]) for value in NO_BAGS] + [FAMILY, WHOLE]),
        (BadFamily, [(FAMILY, value, None) for value in NO_FAMILIES]),
        (OtherBeads, [(FAMILY, PATH), (FAMILY, FAMILY, ((0, 1),))]),
    ]),
    "small size": (4, [(BadNumber, OTHER_KINDS + TUPLES + [-GREAT, -4, -1, 0, 1, 6, 7, 60, GREAT])]),
    "paired size": (4, [(BadNumber, OTHER_KINDS + TUPLES + [-GREAT, -4, -1, 0, 1, 5, 6, 7, 60, GREAT])]),
    "small family": (FAMILY, [(BadBags, NO_BAGS), (BadFamily, NO_FAMILIES), (TooGreat, [PATH, STAR, PATH[:6], PATH[:5]])]),
    "moves away": (2, [(BadNumber, OTHER_KINDS + TUPLES + [-GREAT, -2, -1, 7, 8, 60, GREAT])]),
    "small most": (3, [(BadNumber, OTHER_KINDS + TUPLES + [-GREAT, -3, -1, 0, 1, 6, 7, 60, GREAT])]),
    "text": ("0.1 1.2.3 3.4", [
        (NotText, [value for value in NO_BAGS + NO_FAMILIES + TUPLES if not isinstance(value, str)]),
        (InvalidText, ["", "0", "0.1 ", "0.1 1.2.3 3", "0.1  1.2", "0.01", "0.60", "1.1", "0.x", "bags"]),
        (BadFamily, ["1.2 0.1", "0.1 0.1", "0.1 2.3", "1.2", "0.1 0.2 1.2"]),
    ]),
    "names": ((4, 2, 0, 1, 3), [(BadNames, NO_WEIGHTS + [(0, 1, 2, 3, 5), (1, 2, 3, 4, 5), (0, 1, 2, 3, 3), (4, 3, 2, 1, -1)])]),
    "code": ((((1, 2), (3,)), (2,)), [(BadCode, NO_BAGS + NO_FAMILIES)]),
}

TABLE = [
    (counts.count_coarser, ["family"]), (counts.count_finer, ["family"]), (counts.steps_up, ["family"]),
    (counts.coarser, ["family"]), (counts.coarser_tally, ["family"]), (counts.families, ["size"]),
    (counts.tally, ["size"]), (counts.count_between, ["whole", "family"]), (counts.count_ways, ["whole", "family"]),
    (counts.mobius, ["whole", "family"]), (counts.between, ["whole", "family"]), (counts.ways, ["whole", "family"]),
    (counts.between_tally, ["whole", "family"]),
    (codes.code, ["family"]), (codes.family_of, ["code"]), (codes.family_number, ["family"]),
    (codes.next_family, ["family"]), (codes.family_at, ["size of a family", "number of bags", "number"]),
    (ways.bead_way, ["family", "bead", "bead"]), (ways.far_from, ["family", "bead"]), (ways.sides, ["family", "index"]),
    (ways.sums_far, ["family"]), (ways.ends, ["family"]), (ways.middles, ["family"]), (ways.hubs, ["family"]),
    (ways.far_tally, ["family"]), (ways.meeting, ["family", "bead", "bead", "bead"]), (ways.hull, ["family", "some"]),
    (ways.far, ["family", "bead", "bead"]), (ways.sum_far, ["family"]), (ways.width, ["family"]),
    (ways.nearest, ["family", "bead", "some"]),
    (outs.taken_out, ["family", "bead"]), (outs.kept, ["family", "some, two at least"]),
    (outs.put_into, ["family", "index"]), (outs.hung_on, ["family", "bead"]),
    (outs.strung, ["family", "whole", "bead", "bead"]), (outs.mended, ["bags"]), (outs.mending_number, ["bags"]),
    (places.one_place, ["family"]), (places.coarser_at, ["family", "number of coarser ones"]),
    (places.coarser_number, ["family", "whole"]), (places.finer_at, ["family", "number of coarser ones"]),
    (places.finer_number, ["whole", "family"]),
    (numbers.count_with_bags, ["size", "number of bags"]), (numbers.mean_bags, ["size"]),
    (numbers.mean_degree, ["size", "number of bags"]), (numbers.outer_mean, ["size", "number of bags"]),
    (numbers.degree_share, ["size", "number of bags", "degree"]), (numbers.together_share, ["size"]),
    (numbers.count_with_sizes, ["numbers of beads"]), (numbers.count_with_degrees, ["numbers of bags"]),
    (bagways.bag_way, ["family", "index", "index"]), (bagways.bag_far, ["family", "index", "index"]),
    (bagways.gate, ["family", "index", "bead"]), (bagways.degree_number, ["family"]),
    (bagways.degree_family, ["degrees", "number of degrees"]),
    (cuts.without_bead, ["family", "bead"]), (cuts.without_beads, ["family", "some"]),
    (cuts.without_bag, ["family", "index"]), (cuts.cut_beads, ["family"]), (cuts.outer_bags, ["family"]),
    (cuts.hang_together, ["family", "some"]), (cuts.connected_sets, ["family"]), (cuts.most_even, ["family"]),
    (cuts.fewest_cuts, ["family", "bead", "bead"]),
    (pairs.count_pairs, ["family"]), (pairs.pair_families, ["family"]), (pairs.cheapest, ["family", "prices"]),
    (pairs.dearest, ["family", "prices"]), (pairs.pair_price_sum, ["family", "prices"]),
    (pairs.shows_cheapest, ["family", "prices", "anything"]),
    (weights.bag_loads, ["family"]), (weights.bead_loads, ["family"]), (weights.weighed_sums, ["family", "weights"]),
    (weights.best_place, ["family", "weights"]), (weights.weighed_pairs, ["family", "weights"]),
    (weights.heaviest_apart, ["family", "weights"]), (weights.shows_apart, ["family", "weights", "anything"]),
    (weights.count_apart, ["family"]), (weights.least_cover, ["family", "weights"]),
    (weights.heaviest_joined, ["family", "weights below 0"]),
    (colors.unlike, ["family", "colors"]), (colors.not_alike, ["family", "colors"]), (colors.fewest_colors, ["family"]),
    (colors.coloring_at, ["family", "colors", "number of unlike ones"]),
    (colors.coloring_number, ["family", "colors", "unlike coloring"]),
    (colors.shows_coloring, ["family", "colors", "anything"]), (colors.alike_pairs, ["family", "coloring"]),
    (blind.chances, ["family of few bags", "pourings"]), (blind.likeliest, ["family of few bags", "pourings"]),
    (blind.mean_greatest, ["family of few bags", "pourings"]), (blind.last_pair, ["family of few bags"]),
    (blind.together_chance, ["family of few bags", "bead", "bead", "pourings"]),
    (blind.mean_wait, ["family of few bags", "bead", "bead"]),
    (walks.count_walks, ["family", "bead", "bead", "steps"]), (walks.walk_counts, ["family", "bead", "steps"]),
    (walks.count_rounds, ["family", "steps"]), (walks.neighbors, ["family"]),
    (walks.chance_at, ["family", "bead", "bead", "few steps"]), (walks.mean_steps, ["family", "bead", "bead"]),
    (walks.stay_share, ["family", "bead"]), (walks.resistance, ["family", "bead", "bead"]),
    (games.game_value, ["family of few bags", "most"]), (games.first_wins, ["family of few bags", "most"]),
    (games.winning_pours, ["family of few bags", "most"]), (games.stops, ["family of few bags", "most"]),
    (games.both_win, ["family of few bags", "family of few bags", "most"]),
    (games.play_lengths, ["family of few bags", "most"]),
    (games.pourer_wins, ["family of few beads", "bead", "bead", "turns"]),
    (many.common_coarser, ["families"]), (many.common_finer, ["families"]), (many.distances, ["families"]),
    (many.widest_pair, ["families"]), (many.middle_of, ["families"]), (many.coarsest_of, ["families"]),
    (many.round_trip, ["families"]), (many.nearest_of, ["family", "families"]),
    (many.together_counts, ["families", "bead"]),
    (shapes.heart, ["family"]), (shapes.shape, ["family"]), (shapes.same_shape, ["family", "whole"]),
    (shapes.renamed, ["family", "names"]), (shapes.renamings, ["family"]), (shapes.copies, ["family"]),
    (shapes.kinds, ["family"]),
    (small.all_families, ["small size"]), (small.families_with, ["small size", "number of bags"]),
    (small.shapes, ["small size"]), (small.farthest_pairs, ["paired size"]), (small.farthest, ["small family"]),
    (small.sphere_sizes, ["family of few beads", "moves away"]), (small.sphere, ["family of few beads", "moves away"]),
    (limits.distance_within, ["small family", "small family", "small most"]),
    (limits.way_within, ["small family", "small family", "small most"]),
    (limits.shows_way_within, ["small family", "small family", "small most", "anything"]),
    (limits.within_sizes, ["small family", "small most"]),
    (texts.write, ["family"]), (texts.read, ["text"]), (texts.draw, ["family"]),
]


def good_values(kinds):
    return [KINDS[kind][0] for kind in kinds]


def few_values(kind):
    """Pairs of a value and its error, None for the good one: a few of each error."""
    good, wrong = KINDS[kind]
    found = [(good, None)]
    for error, values in wrong:
        found += [(value, error) for value in values[:: len(values) // 3 + 1]]
    return found


class ArgumentsTest(unittest.TestCase):
    def test_all_functions_are_told(self):
        # Those of bags and orders are called by test_wrong.py, the class of desks by test_desks.py.
        listed = [(module, name) for module, names in LISTED.items() if module not in (bags, orders) for name in names]
        told = [function.__module__ + "." + function.__name__ for function, _ in TABLE]
        self.assertEqual(sorted(told), sorted(module.__name__ + "." + name for module, name in listed))

    def test_one_wrong_value(self):
        for function, kinds in TABLE:
            for place, kind in enumerate(kinds):
                for error, values in KINDS[kind][1]:
                    for value in values:
                        told = good_values(kinds)
                        told[place] = value
                        check_error(self, error, function, *told)

    def test_the_leftmost_of_several_wrong_values(self):
        for function, kinds in TABLE:
            for told in product(*[few_values(kind) for kind in kinds]):
                errors = [error for _, error in told if error is not None]
                # Other numbers of beads are found behind the errors of all arguments.
                errors = [error for error in errors if error is not OtherBeads] or errors
                if errors:
                    check_error(self, errors[0], function, *[value for value, _ in told])

    def test_good_values_are_left_as_they_are(self):
        for function, kinds in TABLE:
            values = good_values(kinds)
            before = repr(values)
            self.assertEqual(function(*values), function(*deepcopy(values)))
            self.assertEqual(repr(values), before)


class AnswersTest(unittest.TestCase):
    def test_lists_are_new(self):
        calls = [
            lambda: counts.coarser(FAMILY), lambda: counts.coarser(WHOLE), lambda: counts.between(WHOLE, FAMILY),
            lambda: counts.ways(WHOLE, FAMILY), lambda: counts.between(FAMILY, FAMILY), lambda: counts.ways(WHOLE, WHOLE),
            lambda: cuts.without_bead(FAMILY, 1), lambda: cuts.without_beads(FAMILY, (1, 3)),
            lambda: cuts.without_bag(FAMILY, 1), lambda: cuts.without_bag(WHOLE, 0),
            lambda: pairs.pair_families(FAMILY), lambda: pairs.pair_families(WHOLE),
            lambda: games.winning_pours(((0, 1), (1, 2)), 60), lambda: games.stops(FAMILY, 60), lambda: games.stops(WHOLE, 2),
            lambda: small.all_families(3), lambda: small.families_with(3, 2), lambda: small.sphere(FAMILY, 2),
            lambda: limits.way_within(FAMILY, FAMILY, 3), lambda: limits.way_within(FAMILY, WHOLE, 5),
        ]
        check_lists_are_new(self, calls)

    def test_kinds_of_answers(self):
        expected = {
            int: [
                counts.count_coarser, counts.count_finer, counts.steps_up, counts.families, counts.count_between,
                counts.count_ways, counts.mobius, codes.family_number, ways.far, ways.sum_far, ways.width,
                ways.nearest, outs.mending_number, places.coarser_number, places.finer_number, numbers.count_with_bags,
                numbers.count_with_sizes, numbers.count_with_degrees, bagways.bag_far, bagways.gate,
                bagways.degree_number, cuts.connected_sets, pairs.count_pairs, pairs.dearest, pairs.pair_price_sum,
                weights.weighed_pairs, weights.count_apart, weights.least_cover, weights.heaviest_joined, colors.unlike,
                colors.not_alike, colors.fewest_colors, colors.coloring_number, colors.alike_pairs,
                walks.count_walks, walks.count_rounds, games.game_value, many.round_trip, shapes.renamings, shapes.copies,
                limits.distance_within,
            ],
            list: [
                counts.coarser, counts.between, counts.ways, cuts.without_bead, cuts.without_beads, cuts.without_bag,
                pairs.pair_families, games.winning_pours, games.stops, small.all_families, small.families_with, small.sphere,
                limits.way_within,
            ],
            bool: [
                cuts.hang_together, pairs.shows_cheapest, weights.shows_apart, colors.shows_coloring, games.first_wins,
                games.both_win, games.pourer_wins, shapes.same_shape, limits.shows_way_within,
            ],
            str: [shapes.shape, texts.write],
        }
        for function, kinds in TABLE:
            wanted = [kind for kind in expected if function in expected[kind]] or [tuple]
            self.assertIs(type(function(*good_values(kinds))), wanted[0], function.__name__)

    def test_any_value_may_be_shown(self):
        values = OTHER_KINDS + INTEGERS + NO_BAGS + NO_FAMILIES + FAMILIES + TUPLES + NO_WEIGHTS
        for function, kinds in TABLE:
            if kinds[-1] == "anything":
                for value in values:
                    told = [*good_values(kinds)[:-1], value]
                    before = deepcopy(told)
                    self.assertIs(type(function(*told)), bool)
                    self.assertEqual(repr(told), repr(before))

    def test_nothing_within_is_a_list_or_a_boolean(self):
        def check_within(value):
            self.assertIn(type(value), (int, str, tuple))
            if type(value) is tuple:
                for part in value:
                    check_within(part)

        for function, kinds in TABLE:
            answer = function(*good_values(kinds))
            if type(answer) is not bool:
                for part in answer if type(answer) is list else [answer]:
                    check_within(part)

    def test_families_are_families(self):
        for family in FAMILIES:
            found = [outs.mended(family), codes.family_of(codes.code(family))]
            found += [places.coarser_at(family, 0), places.finer_at(family, places.one_place(family)[1] // 2)]
            found += [bagways.degree_family(degrees(family), 0)]
            found += [many.common_coarser((family,) * 3), many.common_finer((family,) * 3)]
            found += [shapes.renamed(family, tuple(range(len(degrees(family))))[::-1])]
            found += [texts.read(texts.write(family)), desks.Box(family).family]
            found += [codes.next_family(family)] if codes.next_family(family) else []
            if counts.count_coarser(family) <= 500:
                found += counts.coarser(family)
            self.assertTrue(all(is_family(other) for other in found))


if __name__ == "__main__":
    unittest.main()
