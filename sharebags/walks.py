"""A walker who goes in each step to another bead of a bag: how many walks there are, and where chance leads."""

from sharebags.checks import check_bead, check_family, check_number
from sharebags.pourings import bags_on_ways, bead_count
from sharebags.ratios import common_multiple, ratio
from sharebags.tallies import power

MOST_STEPS = 200
MOST_CHANCE_STEPS = 12


def count_walks(family, one, other, steps):
    """The number of walks of so many steps from one bead to another."""
    _check_family_and_beads(family, one, other)
    check_number(steps, 0, MOST_STEPS)
    return _walks_from(family, one, steps)[other]


def walk_counts(family, bead, steps):
    """The tuple of the numbers of walks of so many steps from a bead to all beads."""
    check_family(family)
    check_bead(family, bead)
    check_number(steps, 0, MOST_STEPS)
    return tuple(_walks_from(family, bead, steps))


def count_rounds(family, steps):
    """The sum over all beads of the numbers of walks of so many steps back to them."""
    check_family(family)
    check_number(steps, 0, MOST_STEPS)
    return sum([_walks_from(family, bead, steps)[bead] for bead in range(bead_count(family))])


def neighbors(family):
    """The tuple of the numbers of beads that share a bag with each bead."""
    check_family(family)
    return tuple(_neighbors(family))


def chance_at(family, one, other, steps):
    """The ratio of the chance to be at other behind so many steps from one."""
    _check_family_and_beads(family, one, other)
    check_number(steps, 0, MOST_CHANCE_STEPS)
    numbers = _neighbors(family)
    # A chance is told by lots: in each step so many times as many that those of each bead can be dealt out evenly.
    many = common_multiple(numbers)
    lots = _alone_at(family, one)
    for _ in range(steps):
        lots = _sums_beside(family, [lot * many // number for lot, number in zip(lots, numbers)])
    return ratio(lots[other], power(many, steps))


def mean_steps(family, one, other):
    """The ratio of the mean number of steps from one until other is come to for the first time."""
    _check_family_and_beads(family, one, other)
    scale = _scale(family)
    from_one = _resistances(family, one, scale)
    from_other = _resistances(family, other, scale)
    # Before other is come to, a bead is left in the mean half its number of neighbors times this sum.
    whole = 0
    for bead, number in enumerate(_neighbors(family)):
        whole += number * (from_one[other] + from_other[bead] - from_one[bead])
    return ratio(whole, 2 * scale)


def stay_share(family, bead):
    """The ratio of a bead's number of neighbors to the sum of all beads' numbers."""
    check_family(family)
    check_bead(family, bead)
    numbers = _neighbors(family)
    return ratio(numbers[bead], sum(numbers))


def resistance(family, one, other):
    """The ratio of the sum, over the bags on the way between two beads, of 2 divided by the number of beads."""
    _check_family_and_beads(family, one, other)
    scale = _scale(family)
    return ratio(_resistances(family, one, scale)[other], scale)


def _check_family_and_beads(family, one, other):
    """Raise the errors of a family, then BadBead for values that are not two beads of it."""
    check_family(family)
    check_bead(family, one)
    check_bead(family, other)


def _neighbors(family):
    """The list of the numbers of beads that share a bag with each bead."""
    return _sums_beside(family, [1] * bead_count(family))


def _walks_from(family, bead, steps):
    """The list of the numbers of walks of so many steps from a bead to all beads."""
    counts = _alone_at(family, bead)
    for _ in range(steps):
        counts = _sums_beside(family, counts)
    return counts


def _alone_at(family, bead):
    """The list, for each bead, of 1 for this bead and 0 for the others."""
    return [1 if other == bead else 0 for other in range(bead_count(family))]


def _sums_beside(family, counts):
    """The list, for each bead, of the sum of the counts of the beads that share a bag with it."""
    # Two beads share one bag at most: so no count is added twice.
    found = [0] * len(counts)
    for bag in family:
        whole = sum([counts[bead] for bead in bag])
        for bead in bag:
            found[bead] += whole - counts[bead]
    return found


def _scale(family):
    """The number that makes integers of all sums of resistances, multiplied by it."""
    return common_multiple([len(bag) for bag in family])


def _resistances(family, bead, scale):
    """The list, for each bead, of the resistance between a bead and it, multiplied by a scale."""
    ways = bags_on_ways(family, bead)
    each = [2 * scale // len(bag) for bag in family]
    return [sum([each[index] for index in ways[other]]) for other in range(bead_count(family))]
