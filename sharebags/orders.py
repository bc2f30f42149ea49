"""Coarser and finer families, and the shortest ways between families."""

from sharebags.checks import check_families, check_family
from sharebags.pourings import climb, coarsest_below, finest_above, lies_below
from sharebags.steps import fewest_moves, leads_by_moves


def is_coarser(one, other):
    """Whether one is coarser than other."""
    check_families(one, other)
    return lies_below(other, one)


def least_coarser(one, other):
    """The finest family that is coarser than both."""
    check_families(one, other)
    return finest_above(one, other)


def greatest_finer(one, other):
    """The coarsest family that is finer than both, None if there is none."""
    check_families(one, other)
    return coarsest_below(one, other)


def rank(family):
    """The number of bags less 1."""
    check_family(family)
    return len(family) - 1


def distance(one, other):
    """The fewest moves that lead from one to other."""
    check_families(one, other)
    return fewest_moves(one, other)


def way(one, other):
    """The list of the families on a shortest way from one to other, both included."""
    check_families(one, other)
    top = finest_above(one, other)
    down = climb(other, top)[:-1]
    return [*climb(one, top), *down[::-1]]


def shows_way(one, other, value):
    """Whether a value is the list of the families on a shortest way from one to other."""
    check_families(one, other)
    return leads_by_moves(one, other, value) and len(value) == fewest_moves(one, other) + 1
