"""Coarser and finer families, and the shortest ways between families."""

from sharebags.checks import check_families, check_family, makes_family
from sharebags.masks import beads_of, holds_two, masks_of
from sharebags.pourings import bead_count, climb, finest_above, lies_below


def is_coarser(one, other):
    """Whether one is coarser than other."""
    check_families(one, other)
    return lies_below(other, one)


def least_coarser(one, other):
    """The finest family that is coarser than both."""
    check_families(one, other)
    return finest_above(one, other)


def greatest_finer(one, other):
    """The coarsest family that is finer than both, None if there is none."""
    check_families(one, other)
    met = _meetings(one, other)
    # Meetings may be a family of fewer beads, which is not finer.
    if makes_family(met) and bead_count(met) == bead_count(one):
        return met
    return None


def rank(family):
    """The number of bags less 1."""
    check_family(family)
    return len(family) - 1


def distance(one, other):
    """The fewest moves that lead from one to other."""
    check_families(one, other)
    return _fewest_moves(one, other)


def way(one, other):
    """The list of the families on a shortest way from one to other, both included."""
    check_families(one, other)
    top = finest_above(one, other)
    down = climb(other, top)[:-1]
    return [*climb(one, top), *down[::-1]]


def shows_way(one, other, value):
    """Whether a value is the list of the families on a shortest way from one to other."""
    check_families(one, other)
    if not isinstance(value, list) or len(value) != _fewest_moves(one, other) + 1:
        return False
    # Python takes (0, True) for equal to (0, 1): so what is compared below are families alone.
    if not all(makes_family(step) for step in value):
        return False
    if value[0] != one or value[-1] != other:
        return False
    return all(_is_move(value[k], value[k + 1]) for k in range(len(value) - 1))


def _fewest_moves(one, other):
    """The fewest moves between two families with as many beads."""
    return len(one) + len(other) - 2 * len(finest_above(one, other))


def _meetings(one, other):
    """The ascending tuple of the meetings of two beads or more of the bags of two families."""
    met = [mask & beside for mask in masks_of(one) for beside in masks_of(other)]
    return tuple(sorted([beads_of(mask) for mask in met if holds_two(mask)]))


def _is_move(one, other):
    """Whether one of two families comes from the other by one pouring."""
    if bead_count(one) != bead_count(other):
        return False
    fine, coarse = one, other
    if len(fine) < len(coarse):
        fine, coarse = other, one
    # Coarser families come by pouring, and each pouring takes one bag away.
    return len(fine) == len(coarse) + 1 and lies_below(fine, coarse)
