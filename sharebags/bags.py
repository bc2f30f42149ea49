"""Families of bags, and the moves that lead from one to another: pouring and parting."""

from sharebags.bars import first_bar
from sharebags.checks import MOST_BEADS, check_bags, check_family, check_listed, check_number
from sharebags.checks import is_ascending, is_between, is_integer, makes_family
from sharebags.errors import BadPart, BadPour
from sharebags.masks import mask_of
from sharebags.pourings import bead_count, degrees_of, parted_at, poured_together, sharing_pairs
from sharebags.steps import families_parted, families_poured


def is_family(value):
    """Whether any value is a family."""
    return makes_family(value)


def bar(value):
    """The first thing that bars bags from being a family, None for a family."""
    check_bags(value)
    return first_bar(value)


def beads(family):
    """The number of beads."""
    check_family(family)
    return bead_count(family)


def degrees(family):
    """The tuple of the numbers of bags that hold each bead."""
    check_family(family)
    return tuple(degrees_of(family))


def sizes(family):
    """The ascending tuple of the numbers of beads of the bags."""
    check_family(family)
    return tuple(sorted([len(bag) for bag in family]))


def one_bag(size):
    """The family of one bag with so many beads."""
    check_number(size, 2, MOST_BEADS)
    return (tuple(range(size)),)


def pours(family):
    """The ascending tuple of the pairs of indexes of bags that share a bead."""
    check_family(family)
    return sharing_pairs(family)


def pour(family, one, other):
    """The family with two bags that share a bead poured into one."""
    check_family(family)
    if not _may_be_poured(family, one, other):
        raise BadPour()
    return poured_together(family, (one, other))


def part(family, index, bead, side):
    """The family with a bag parted into bead with side, and bead with the bag's other beads."""
    check_family(family)
    if not _may_be_parted(family, index, bead, side):
        raise BadPart()
    return parted_at(family, index, bead, side)


def poured(family):
    """The ascending list of the families that come by one pouring."""
    check_family(family)
    check_listed(len(sharing_pairs(family)))
    return sorted(families_poured(family))


def parted(family):
    """The ascending list of the families that come by one parting."""
    check_family(family)
    check_listed(_count_partings(family))
    return sorted(families_parted(family))


def moves(family):
    """The pair of the numbers of the families that come by one pouring, and by one parting."""
    check_family(family)
    return (len(sharing_pairs(family)), _count_partings(family))


def _may_be_poured(family, one, other):
    """Whether two values are the indexes of two bags that share a bead, in either order."""
    last = len(family) - 1
    if not is_between(one, 0, last) or not is_between(other, 0, last):
        return False
    return one != other and (mask_of(family[one]) & mask_of(family[other])) != 0


def _may_be_parted(family, index, bead, side):
    """Whether index tells a bag, bead is one of its beads and side some, not all, of the others."""
    if not is_between(index, 0, len(family) - 1):
        return False
    bag = family[index]
    if not is_integer(bead) or bead not in bag:
        return False
    if not isinstance(side, tuple) or not 1 <= len(side) <= len(bag) - 2:
        return False
    others = [other for other in bag if other != bead]
    return all(is_integer(other) and other in others for other in side) and is_ascending(side)


def _count_partings(family):
    """The number of families that come by one parting."""
    # Each bead of a bag may stay in both, with the others in two heaps, neither of them empty.
    return sum(len(bag) * ((1 << (len(bag) - 2)) - 1) for bag in family)
