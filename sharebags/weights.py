"""Beads with weights, what they weigh from afar, apart and together, and the loads that ways lay on bags and beads."""

from sharebags.checks import are_integers, check_family, is_bead_tuple
from sharebags.errors import BadPrices
from sharebags.groups import groups_without_bag, groups_without_beads
from sharebags.hangings import hung_bags
from sharebags.masks import holds_two, mask_of
from sharebags.paths import all_distances
from sharebags.pourings import bead_count

GREATEST_WEIGHT = 1000000


def bag_loads(family):
    """The tuple, for each bag, of the number of pairs of beads whose way goes by it."""
    check_family(family)
    return tuple(_pairs_between(groups_without_bag(family, index)) for index in range(len(family)))


def bead_loads(family):
    """The tuple, for each bead, of the number of pairs of other beads whose way goes by it."""
    check_family(family)
    return tuple(_pairs_between(groups_without_beads(family, (bead,))) for bead in range(bead_count(family)))


def weighed_sums(family, weights):
    """The tuple, for each bead, of the sum of the weights of all beads times their distances from it."""
    _check_family_and_weights(family, weights, 0)
    return tuple(_weighed_sums(family, weights))


def best_place(family, weights):
    """The pair (least weighed sum of a bead, least bead with it)."""
    _check_family_and_weights(family, weights, 0)
    sums = _weighed_sums(family, weights)
    return (min(sums), sums.index(min(sums)))


def weighed_pairs(family, weights):
    """The sum over all pairs of beads of both weights times the distance."""
    _check_family_and_weights(family, weights, 0)
    # Each pair is told from both of its beads.
    return sum([weight * far for weight, far in zip(weights, _weighed_sums(family, weights))]) // 2


def heaviest_apart(family, weights):
    """The pair (greatest sum of weights of beads no two of which share a bag, such beads)."""
    _check_family_and_weights(family, weights, 0)
    chosen = _heaviest_apart(family, weights)
    return (_sum_of(chosen, weights), chosen)


def shows_apart(family, weights, value):
    """Whether a value is an ascending tuple of beads no two of which share a bag with the greatest sum of weights."""
    _check_family_and_weights(family, weights, 0)
    if not _lie_apart(family, value):
        return False
    return _sum_of(value, weights) == _sum_of(_heaviest_apart(family, weights), weights)


def count_apart(family):
    """The number of sets of beads no two of which share a bag, the empty one included."""
    check_family(family)
    # For each bead the numbers of such sets of it and the beads behind it, with it and without it.
    size = bead_count(family)
    taken = [1] * size
    left = [1] * size
    for stem, own in reversed(hung_bags(family)):
        none, one = 1, 0
        for bead in own:
            none, one = none * left[bead], one * left[bead] + none * taken[bead]
        taken[stem] = taken[stem] * none
        left[stem] = left[stem] * (none + one)
    return taken[0] + left[0]


def least_cover(family, weights):
    """The least sum of weights of beads of which each bag has one."""
    _check_family_and_weights(family, weights, 0)
    # For each bead the least sums of it and the beads behind it, with it and without it.
    taken = list(weights)
    left = [0] * len(weights)
    for stem, own in reversed(hung_bags(family)):
        best = [min(taken[bead], left[bead]) for bead in own]
        taken[stem] += sum(best)
        # Without its stem a bag needs one of its own beads.
        left[stem] += sum(best) + min([taken[bead] - least for bead, least in zip(own, best)])
    return min(taken[0], left[0])


def heaviest_joined(family, weights):
    """The greatest sum of weights, of which some may be below 0, of beads that hang together, one at least."""
    _check_family_and_weights(family, weights, -GREATEST_WEIGHT)
    # For each bead the greatest sum of those sets of which it is the one nearest to bead 0.
    nearest = list(weights)
    found = []
    for stem, own in reversed(hung_bags(family)):
        together = sum([max(0, nearest[bead]) for bead in own])
        nearest[stem] += together
        # Own beads of the bag may hang together without the stem; a sum of 0 could be that of no bead at all.
        if together > 0:
            found.append(together)
    return max([*found, *nearest])


def _check_family_and_weights(family, weights, least):
    """Raise the errors of a family, then BadPrices for what is no tuple of a weight, least at least, for each bead."""
    check_family(family)
    if not are_integers(weights, least, GREATEST_WEIGHT) or len(weights) != bead_count(family):
        raise BadPrices()


def _pairs_between(groups):
    """The number of pairs of beads that lie in two of some groups."""
    many = [len(group) for group in groups]
    return (sum(many) * sum(many) - sum([size * size for size in many])) // 2


def _weighed_sums(family, weights):
    """The list, for each bead, of the sum of the weights of all beads times their distances from it."""
    return [sum([weight * far for weight, far in zip(weights, row)]) for row in all_distances(family)]


def _sum_of(some, weights):
    """The sum of the weights of some beads."""
    return sum([weights[bead] for bead in some])


def _lie_apart(family, value):
    """Whether a value is an ascending tuple of beads of a family no two of which share a bag, or the empty one."""
    if not is_bead_tuple(value) or any(bead >= bead_count(family) for bead in value):
        return False
    some = mask_of(value)
    return not any(holds_two(mask_of(bag) & some) for bag in family)


def _heaviest_apart(family, weights):
    """The ascending tuple of some beads with the greatest sum of weights no two of which share a bag."""
    hung = hung_bags(family)
    # For each bead the greatest sums of it and the beads behind it, with it and without it.
    taken = list(weights)
    left = [0] * len(weights)
    for stem, own in reversed(hung):
        rest = sum([left[bead] for bead in own])
        taken[stem] += rest
        left[stem] += rest + max(0, max([taken[bead] - left[bead] for bead in own]))
    chosen = {0: taken[0] >= left[0]}
    for stem, own in hung:
        gain, best = max([(taken[bead] - left[bead], bead) for bead in own])
        for bead in own:
            chosen[bead] = bead == best and gain >= 0 and not chosen[stem]
    return tuple(bead for bead in range(len(weights)) if chosen[bead])
