"""Families of bags, and the moves that lead from one to another: pouring and parting."""

from sharebags.bars import first_bar
from sharebags.checks import MOST_BEADS, check_bags, check_family, check_listed, check_number, makes_family
from sharebags.pourings import bead_count, degrees_of, sharing_pairs
from sharebags.steps import families_parted, families_poured, parted_as_told, poured_as_told


def is_family(value):
    """Whether any value is a family."""
    return makes_family(value)


def bar(value):
    """The first thing that bars bags from being a family, None for a family."""
    check_bags(value)
    return first_bar(value)


def beads(family):
    """The number of beads."""
    check_family(family)
    return bead_count(family)


def degrees(family):
    """The tuple of the numbers of bags that hold each bead."""
    check_family(family)
    return tuple(degrees_of(family))


def sizes(family):
    """The ascending tuple of the numbers of beads of the bags."""
    check_family(family)
    return tuple(sorted([len(bag) for bag in family]))


def one_bag(size):
    """The family of one bag with so many beads."""
    check_number(size, 2, MOST_BEADS)
    return (tuple(range(size)),)


def pours(family):
    """The ascending tuple of the pairs of indexes of bags that share a bead."""
    check_family(family)
    return sharing_pairs(family)


def pour(family, one, other):
    """The family with two bags that share a bead poured into one."""
    check_family(family)
    return poured_as_told(family, one, other)


def part(family, index, bead, side):
    """The family with a bag parted into bead with side, and bead with the bag's other beads."""
    check_family(family)
    return parted_as_told(family, index, bead, side)


def poured(family):
    """The ascending list of the families that come by one pouring."""
    check_family(family)
    check_listed(len(sharing_pairs(family)))
    return sorted(families_poured(family))


def parted(family):
    """The ascending list of the families that come by one parting."""
    check_family(family)
    check_listed(_count_partings(family))
    return sorted(families_parted(family))


def moves(family):
    """The pair of the numbers of the families that come by one pouring, and by one parting."""
    check_family(family)
    return (len(sharing_pairs(family)), _count_partings(family))


def _count_partings(family):
    """The number of families that come by one parting."""
    # Each bead of a bag may stay in both, with the others in two heaps, neither of them empty.
    return sum(len(bag) * ((1 << (len(bag) - 2)) - 1) for bag in family)
