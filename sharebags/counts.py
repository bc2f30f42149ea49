"""How many families are coarser, finer or between two families, which ones, and how many families there are."""

from math import factorial

from sharebags.bags import one_bag
from sharebags.checks import check_family, check_finer, check_listed, check_number
from sharebags.masks import lies_within, mask_of
from sharebags.partitions import all_partitions, partitions_by_parts
from sharebags.pourings import bead_count, poured_below
from sharebags.tallies import families_by_bags, multiplied, product_of

MOST_COUNTED = 200


def count_ways(coarse, fine):
    """The number of shortest ways from fine to coarse."""
    check_finer(coarse, fine)
    return _count_ways(coarse, fine)


def ways(coarse, fine):
    """The ascending list of the shortest ways from fine to coarse, tuples of families."""
    check_finer(coarse, fine)
    check_listed(_count_ways(coarse, fine))
    found = [(fine,)]
    for _ in range(len(fine) - len(coarse)):
        found = [(*steps, higher) for steps in found for higher in poured_below(steps[-1], coarse)]
    return sorted(found)


def steps_up(family):
    """The number of shortest ways to the one bag."""
    check_family(family)
    return _count_ways(_whole(family), family)


def count_coarser(family):
    """The number of the families coarser than a family."""
    check_family(family)
    return _count_between(_whole(family), family)


def count_finer(family):
    """The number of the families finer than a family."""
    check_family(family)
    return product_of([sum(families_by_bags(len(bag))) for bag in family])


def coarser(family):
    """The ascending list of the families coarser than a family."""
    check_family(family)
    return _listed_between(_whole(family), family)


def coarser_tally(family):
    """The tuple of the numbers of coarser families with 1, 2, .., all bags."""
    check_family(family)
    return tuple(_tally_between(_whole(family), family))


def count_between(coarse, fine):
    """The number of the families finer than coarse and coarser than fine."""
    check_finer(coarse, fine)
    return _count_between(coarse, fine)


def between(coarse, fine):
    """The ascending list of the families finer than coarse and coarser than fine."""
    check_finer(coarse, fine)
    return _listed_between(coarse, fine)


def between_tally(coarse, fine):
    """The ascending tuple of the pairs (number of bags, number of families between with so many)."""
    check_finer(coarse, fine)
    return tuple(enumerate(_tally_between(coarse, fine), start=len(coarse)))


def mobius(coarse, fine):
    """The product of (d - 1)!, with a sign - if d is even, over the bags of coarse and their beads.

    d is the number of bags of fine that lie in the bag and hold the bead.
    """
    check_finer(coarse, fine)
    return product_of([_signed_factorial(degree) for degree in _degrees_inside(coarse, fine)])


def families(size):
    """The number of families with so many beads."""
    check_number(size, 2, MOST_COUNTED)
    return sum(families_by_bags(size))


def tally(size):
    """The tuple of the numbers of families with so many beads and 1, 2, .., size - 1 bags."""
    check_number(size, 2, MOST_COUNTED)
    return tuple(families_by_bags(size))


def _whole(family):
    """The family of one bag with all beads of a family."""
    return one_bag(bead_count(family))


def _degrees_inside(coarse, fine):
    """The list, for each bag of coarse and bead of it, of the number of bags of fine in that bag at that bead.

    The families between fine and coarse are told by a partition of these bags for each such bag and bead,
    independently of one another: the bags in one part are poured into one.
    """
    found = []
    for whole in coarse:
        inside = [bag for bag in fine if lies_within(mask_of(bag), [mask_of(whole)])]
        found.extend([len([bag for bag in inside if bead in bag]) for bead in whole])
    return found


def _count_between(coarse, fine):
    """The number of the families between two families, the second one finer."""
    return product_of([all_partitions(degree) for degree in _degrees_inside(coarse, fine)])


def _listed_between(coarse, fine):
    """The ascending list of the families between two families, the second one finer."""
    check_listed(_count_between(coarse, fine))
    found = []
    level = [fine]
    while level:
        found.extend(level)
        level = sorted({higher for family in level for higher in poured_below(family, coarse)})
    return sorted(found)


def _tally_between(coarse, fine):
    """The list of the numbers of families between two families with as many bags as coarse, one more, .."""
    found = [1]
    for degree in _degrees_inside(coarse, fine):
        # One part for each bag of coarse and bead is there anyway: the parts beyond it make bags.
        found = multiplied(found, partitions_by_parts(degree)[1:])
    return found


def _count_ways(coarse, fine):
    """The number of ways of pourings from fine to coarse."""
    # d bags at a bead are brought together in d! (d - 1)! / 2 ** (d - 1) orders, as any two parts of them may be
    # joined next; the d - 1 joinings of each bead may come in any order among those of the others.
    steps = len(fine) - len(coarse)
    orders = product_of([factorial(degree) for degree in _degrees_inside(coarse, fine)])
    return factorial(steps) * orders // (1 << steps)


def _signed_factorial(degree):
    """(degree - 1)! with a sign - if degree is even."""
    if degree & 1:
        return factorial(degree - 1)
    return -factorial(degree - 1)
