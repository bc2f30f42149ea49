"""The names and arguments of the interface, each in its own file."""

import inspect
import unittest

from sharebags import bags, bagways, blind, codes, colors, counts, cuts, desks, errors, games, limits, many
from sharebags import numbers, orders, outs, pairs, places, shapes, small, texts, walks, ways, weights

LISTED = {
    bags: {
        "beads": ["family"], "degrees": ["family"], "sizes": ["family"], "pours": ["family"], "one_bag": ["size"],
        "pour": ["family", "one", "other"], "part": ["family", "index", "bead", "side"], "moves": ["family"],
        "poured": ["family"], "parted": ["family"], "is_family": ["value"], "bar": ["value"],
    },
    orders: {
        "is_coarser": ["one", "other"], "shows_way": ["one", "other", "value"], "least_coarser": ["one", "other"],
        "greatest_finer": ["one", "other"], "distance": ["one", "other"], "rank": ["family"],
        "way": ["one", "other"],
    },
    counts: {
        "count_coarser": ["family"], "count_finer": ["family"], "count_between": ["coarse", "fine"],
        "count_ways": ["coarse", "fine"], "mobius": ["coarse", "fine"], "steps_up": ["family"], "families": ["size"],
        "coarser": ["family"], "between": ["coarse", "fine"], "ways": ["coarse", "fine"],
        "coarser_tally": ["family"], "between_tally": ["coarse", "fine"], "tally": ["size"],
    },
    codes: {
        "code": ["family"], "family_of": ["value"], "family_at": ["size", "bags", "index"],
        "family_number": ["family"], "next_family": ["family"],
    },
    ways: {
        "bead_way": ["family", "one", "other"], "far_from": ["family", "bead"], "sides": ["family", "index"],
        "sums_far": ["family"], "ends": ["family"], "middles": ["family"], "hubs": ["family"],
        "far_tally": ["family"], "meeting": ["family", "one", "other", "third"], "hull": ["family", "some"],
        "far": ["family", "one", "other"], "sum_far": ["family"], "width": ["family"],
        "nearest": ["family", "bead", "some"],
    },
    outs: {
        "taken_out": ["family", "bead"], "kept": ["family", "some"], "put_into": ["family", "index"],
        "hung_on": ["family", "bead"], "strung": ["one", "other", "first", "second"], "mended": ["bags"],
        "mending_number": ["bags"],
    },
    places: {
        "coarser_at": ["family", "index"], "finer_at": ["family", "index"], "coarser_number": ["family", "coarse"],
        "finer_number": ["family", "fine"], "one_place": ["family"],
    },
    numbers: {
        "count_with_bags": ["size", "bags"], "count_with_sizes": ["value"], "count_with_degrees": ["value"],
        "mean_bags": ["size"], "mean_degree": ["size", "bags"], "degree_share": ["size", "bags", "degree"],
        "outer_mean": ["size", "bags"], "together_share": ["size"],
    },
    bagways: {
        "bag_way": ["family", "one", "other"], "bag_far": ["family", "one", "other"],
        "gate": ["family", "index", "bead"], "degree_number": ["family"], "degree_family": ["value", "index"],
    },
    cuts: {
        "without_bead": ["family", "bead"], "without_bag": ["family", "index"], "without_beads": ["family", "some"],
        "cut_beads": ["family"], "outer_bags": ["family"], "fewest_cuts": ["family", "one", "other"],
        "most_even": ["family"], "hang_together": ["family", "some"], "connected_sets": ["family"],
    },
    pairs: {
        "count_pairs": ["family"], "dearest": ["family", "prices"], "pair_price_sum": ["family", "prices"],
        "pair_families": ["family"], "cheapest": ["family", "prices"],
        "shows_cheapest": ["family", "prices", "value"],
    },
    weights: {
        "weighed_sums": ["family", "weights"], "bag_loads": ["family"], "bead_loads": ["family"],
        "best_place": ["family", "weights"], "heaviest_apart": ["family", "weights"],
        "weighed_pairs": ["family", "weights"], "count_apart": ["family"], "least_cover": ["family", "weights"],
        "heaviest_joined": ["family", "weights"], "shows_apart": ["family", "weights", "value"],
    },
    colors: {
        "unlike": ["family", "colors"], "not_alike": ["family", "colors"], "fewest_colors": ["family"],
        "coloring_number": ["family", "colors", "value"], "alike_pairs": ["family", "value"],
        "coloring_at": ["family", "colors", "index"], "shows_coloring": ["family", "colors", "value"],
    },
    blind: {
        "chances": ["family", "times"], "last_pair": ["family"], "likeliest": ["family", "times"],
        "together_chance": ["family", "one", "other", "times"], "mean_wait": ["family", "one", "other"],
        "mean_greatest": ["family", "times"],
    },
    walks: {
        "count_walks": ["family", "one", "other", "steps"], "count_rounds": ["family", "steps"],
        "walk_counts": ["family", "bead", "steps"], "neighbors": ["family"], "resistance": ["family", "one", "other"],
        "mean_steps": ["family", "one", "other"], "stay_share": ["family", "bead"],
        "chance_at": ["family", "one", "other", "steps"],
    },
    games: {
        "game_value": ["family", "most"], "first_wins": ["family", "most"], "both_win": ["one", "other", "most"],
        "pourer_wins": ["family", "one", "other", "turns"], "winning_pours": ["family", "most"],
        "stops": ["family", "most"], "play_lengths": ["family", "most"],
    },
    many: {
        "common_coarser": ["value"], "common_finer": ["value"], "distances": ["value"],
        "nearest_of": ["family", "value"], "widest_pair": ["value"], "middle_of": ["value"], "coarsest_of": ["value"],
        "together_counts": ["value", "one"], "round_trip": ["value"],
    },
    shapes: {
        "shape": ["family"], "same_shape": ["one", "other"], "renamings": ["family"], "copies": ["family"],
        "renamed": ["family", "names"], "heart": ["family"], "kinds": ["family"],
    },
    small: {
        "all_families": ["size"], "families_with": ["size", "bags"], "sphere": ["family", "size"],
        "sphere_sizes": ["family", "size"], "farthest": ["family"], "shapes": ["size"], "farthest_pairs": ["size"],
    },
    limits: {
        "distance_within": ["one", "other", "most"], "way_within": ["one", "other", "most"],
        "shows_way_within": ["one", "other", "most", "value"], "within_sizes": ["family", "most"],
    },
    texts: {"write": ["family"], "read": ["text"], "draw": ["family"]},
    desks: {},
}

BOX_METHODS = {
    "__init__": ["self", "family"], "pour": ["self", "one", "other"], "part": ["self", "index", "bead", "side"],
    "undo": ["self"], "open_pairs": ["self"], "wasted": ["self"], "seen": ["self"], "coarsest": ["self"],
}
BOX_PROPERTIES = ["family", "made"]


class InterfaceTest(unittest.TestCase):
    def test_all_headings(self):
        headings = [
            "bags", "orders", "counts", "places", "numbers", "codes", "ways", "bagways", "cuts", "outs", "pairs", "weights", "colors",
            "walks", "blind", "games", "many", "small", "limits", "shapes", "texts", "desks",
        ]
        self.assertEqual(sorted(module.__name__ for module in LISTED), sorted("sharebags." + name for name in headings))

    def test_box_and_its_methods(self):
        self.assertEqual([desks.Box.__module__, desks.Box.__bases__], ["sharebags.desks", (object,)])
        for name, arguments in BOX_METHODS.items():
            self.assertEqual(list(inspect.signature(vars(desks.Box)[name]).parameters), arguments, name)
        for name in BOX_PROPERTIES:
            self.assertIs(type(vars(desks.Box)[name]), property)
        own = [name for name in vars(desks.Box) if name[0] != "_"]
        self.assertEqual(sorted(own), sorted([*list(BOX_METHODS)[1:], *BOX_PROPERTIES]))
        box = desks.Box(family=((0, 1), (1, 2)))
        box.pour(one=0, other=1)
        box.part(index=0, bead=2, side=(0,))
        self.assertEqual(box.family, ((0, 2), (1, 2)))

    def test_modules_have_no_other_classes(self):
        for module in LISTED:
            own = [value for value in vars(module).values() if inspect.isclass(value) and value.__module__ == module.__name__]
            self.assertEqual(own, [desks.Box] if module is desks else [])

    def test_functions_stand_in_their_files_with_their_arguments(self):
        for module, functions in LISTED.items():
            for name, arguments in functions.items():
                function = getattr(module, name)
                self.assertEqual(function.__module__, module.__name__, name)
                self.assertEqual(list(inspect.signature(function).parameters), arguments, name)

    def test_arguments_may_be_named(self):
        family = ((0, 1, 2), (2, 3))
        self.assertEqual(bags.pour(family=family, one=0, other=1), ((0, 1, 2, 3),))
        self.assertEqual(bags.part(family=family, index=0, bead=2, side=(0,)), ((0, 2), (1, 2), (2, 3)))
        self.assertTrue(orders.shows_way(one=family, other=family, value=[family]))
        self.assertEqual(counts.count_ways(coarse=((0, 1, 2, 3),), fine=family), 1)
        self.assertEqual(codes.family_at(size=4, bags=2, index=2), family)
        self.assertEqual(ways.meeting(family=family, one=0, other=1, third=3), ("bag", 0))
        self.assertEqual(places.finer_number(family=family, fine=family), 0)
        self.assertEqual(numbers.degree_share(size=4, bags=2, degree=2), (1, 4))
        self.assertEqual(bagways.gate(family=family, index=1, bead=0), 2)
        self.assertEqual(cuts.fewest_cuts(family=family, one=0, other=3), (2,))
        self.assertEqual(pairs.dearest(family=((0, 1),), prices=((0, 8), (8, 0))), 8)
        self.assertEqual(weights.shows_apart(family=family, weights=(1, 2, 3, 4), value=(1, 3)), True)
        self.assertEqual(colors.coloring_at(family=family, colors=3, index=0), (0, 1, 2, 0))
        self.assertEqual(blind.together_chance(family=family, one=0, other=3, times=1), (1, 1))
        self.assertEqual(walks.chance_at(family=family, one=0, other=3, steps=2), (1, 6))
        self.assertIs(games.both_win(one=family, other=family, most=4), False)
        self.assertIs(games.pourer_wins(family=family, one=0, other=3, turns=1), True)
        self.assertEqual(many.together_counts(value=(family, family), one=0), (2, 2, 2, 0))
        self.assertEqual(many.nearest_of(family=family, value=(family,)), (0, 0))
        self.assertEqual(shapes.renamed(family=family, names=(3, 2, 1, 0)), ((0, 1), (1, 2, 3)))
        self.assertEqual(small.families_with(size=3, bags=1), [((0, 1, 2),)])
        self.assertEqual(small.sphere(family=((0, 1),), size=0), [((0, 1),)])
        self.assertIs(limits.shows_way_within(one=family, other=family, most=3, value=[family]), True)
        self.assertEqual(limits.within_sizes(family=((0, 1),), most=2), (1,))
        self.assertEqual([texts.read(text="0.1"), texts.write(family=((0, 1),)), texts.draw(family=((0, 1),))], [((0, 1),), "0.1", ("oo",)])
        self.assertEqual(outs.strung(one=((0, 1),), other=((0, 1),), first=1, second=0), ((0, 1), (1, 2)))

    def test_nothing_else_is_public(self):
        for module, functions in LISTED.items():
            own = [
                name for name, value in vars(module).items()
                if inspect.isfunction(value) and value.__module__ == module.__name__ and name[0] != "_"
            ]
            self.assertEqual(sorted(own), sorted(functions))

    def test_errors_are_value_errors(self):
        self.assertTrue(issubclass(errors.BadBags, ValueError))


if __name__ == "__main__":
    unittest.main()
