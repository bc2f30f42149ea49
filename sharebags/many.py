"""Several families with as many beads: what is coarser and finer than all of them, and how far they are apart."""

from sharebags.checks import check_bead, check_family, check_family_tuple, check_same_beads
from sharebags.masks import mask_of
from sharebags.pourings import bead_count, coarsest_below, finest_above, lies_below
from sharebags.steps import fewest_moves


def common_coarser(value):
    """The finest family that is coarser than all of some families."""
    _check_families(value)
    found = value[0]
    for family in value[1:]:
        found = finest_above(found, family)
    return found


def common_finer(value):
    """The coarsest family that is finer than all of some families, None if there is none."""
    _check_families(value)
    found = value[0]
    for family in value[1:]:
        found = coarsest_below(found, family)
        if found is None:
            return None
    return found


def distances(value):
    """The tuple, for each of some families, of the tuple of its distances to all."""
    _check_families(value)
    return tuple(tuple(row) for row in _distances(value))


def widest_pair(value):
    """The triple (greatest distance of two families, first index, second index).

    The second index is the least one, then the first one the least one at most that.
    """
    _check_families(value)
    rows = _distances(value)
    places = [(-rows[i][j], j, i) for j in range(len(value)) for i in range(j + 1)]
    below, second, first = min(places)
    return (-below, first, second)


def middle_of(value):
    """The pair (least sum of the distances of a family to all, least index with it)."""
    _check_families(value)
    return min([(sum(row), index) for index, row in enumerate(_distances(value))])


def coarsest_of(value):
    """The ascending tuple of the indexes of the families than which no other one, unlike them, is coarser."""
    _check_families(value)
    return tuple(index for index in range(len(value)) if not _has_coarser(value[index], value))


def round_trip(value):
    """The fewest moves that lead along some families, one behind another, and back to the first."""
    _check_families(value)
    # The index -1 tells the last one, from which the way leads back.
    return sum([fewest_moves(value[index - 1], value[index]) for index in range(len(value))])


def nearest_of(family, value):
    """The pair (least distance of a family to one of some families, least index with it)."""
    check_family(family)
    check_family_tuple(value)
    check_same_beads([family, *value])
    return min([(fewest_moves(family, other), index) for index, other in enumerate(value)])


def together_counts(value, one):
    """The tuple, for each bead, of the number of families in which one shares a bag with it, itself being in one."""
    check_family_tuple(value)
    check_bead(value[0], one)
    check_same_beads(value)
    beside = [_mask_beside(family, one) for family in value]
    return tuple(sum([(mask >> bead) & 1 for mask in beside]) for bead in range(bead_count(value[0])))


def _check_families(value):
    """Raise the errors of a tuple of families, then OtherBeads if they have different numbers of beads."""
    check_family_tuple(value)
    check_same_beads(value)


def _distances(value):
    """The list, for each of some families, of the list of its distances to all."""
    rows = []
    for index, family in enumerate(value):
        # Distances are alike both ways: those to the families ahead are told already.
        ahead = [row[index] for row in rows]
        rows.append([*ahead, *[fewest_moves(family, other) for other in value[index:]]])
    return rows


def _has_coarser(family, others):
    """Whether one of some families, unlike a family, is coarser than it."""
    return any(other != family and lies_below(family, other) for other in others)


def _mask_beside(family, bead):
    """The mask of the beads that share a bag with a bead, itself included."""
    found = 0
    for bag in family:
        if bead in bag:
            found = found | mask_of(bag)
    return found
