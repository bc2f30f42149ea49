"""Moves of families that are known to be families: what lies one move away, and what some moves lead to."""

from sharebags.checks import is_ascending, is_between, is_integer, makes_family
from sharebags.errors import BadPart, BadPour
from sharebags.masks import mask_of
from sharebags.pourings import bead_count, finest_above, greatest_size, lies_below
from sharebags.pourings import parted_at, poured_together, sharing_pairs


def poured_as_told(family, one, other):
    """The family with two bags poured into one, BadPour for values that do not tell two bags that share a bead."""
    if not _may_be_poured(family, one, other):
        raise BadPour()
    return poured_together(family, (one, other))


def parted_as_told(family, index, bead, side):
    """The family with a bag parted into bead with side and bead with the others, BadPart for values that tell none."""
    if not _may_be_parted(family, index, bead, side):
        raise BadPart()
    return parted_at(family, index, bead, side)


def families_poured(family):
    """The list of the families that come by one pouring."""
    return [poured_together(family, pair) for pair in sharing_pairs(family)]


def families_parted(family):
    """The list of the families that come by one parting."""
    found = []
    for index, bag in enumerate(family):
        for bead in bag:
            found.extend([parted_at(family, index, bead, side) for side in _sides(bag, bead)])
    return found


def fewest_moves(one, other):
    """The fewest moves between two families with as many beads."""
    return len(one) + len(other) - 2 * len(finest_above(one, other))


def is_move(one, other):
    """Whether one of two families comes from the other by one pouring."""
    if bead_count(one) != bead_count(other):
        return False
    fine, coarse = one, other
    if len(fine) < len(coarse):
        fine, coarse = other, one
    # Coarser families come by pouring, and each pouring takes one bag away.
    return len(fine) == len(coarse) + 1 and lies_below(fine, coarse)


def leads_by_moves(one, other, value):
    """Whether a value is a list of families each of which is one move behind the one before, from one to other."""
    # Python takes (0, True) for equal to (0, 1): so what is compared below are families alone.
    if not isinstance(value, list) or not value or not all(makes_family(step) for step in value):
        return False
    if value[0] != one or value[-1] != other:
        return False
    return all(is_move(value[k], value[k + 1]) for k in range(len(value) - 1))


def next_sphere(spheres, most):
    """The ascending list of the families one move farther away than those of the last of some spheres.

    The spheres are the lists of the families 0, 1, .. moves away; no family has a bag of more than most beads.
    """
    # A family that is one move from the last sphere and nearer than that lies in the sphere before.
    met = {family: True for sphere in spheres[-2:] for family in sphere}
    found = {}
    for family in spheres[-1]:
        for other in [*families_poured(family), *families_parted(family)]:
            if other not in met and greatest_size(other) <= most:
                found[other] = True
    return sorted(found)


def _may_be_poured(family, one, other):
    """Whether two values are the indexes of two bags that share a bead, in either order."""
    last = len(family) - 1
    if not is_between(one, 0, last) or not is_between(other, 0, last):
        return False
    return one != other and (mask_of(family[one]) & mask_of(family[other])) != 0


def _may_be_parted(family, index, bead, side):
    """Whether index tells a bag, bead is one of its beads and side some, not all, of the others."""
    if not is_between(index, 0, len(family) - 1):
        return False
    bag = family[index]
    if not is_integer(bead) or bead not in bag:
        return False
    if not isinstance(side, tuple) or not 1 <= len(side) <= len(bag) - 2:
        return False
    others = [other for other in bag if other != bead]
    return all(is_integer(other) and other in others for other in side) and is_ascending(side)


def _sides(bag, bead):
    """The list of the sides by which a bag is parted at a bead, one for each two heaps of the others."""
    # The first other bead is in each side: so no two heaps are told twice.
    first, *rest = [other for other in bag if other != bead]
    found = []
    for told in range((1 << len(rest)) - 1):
        found.append((first, *[rest[k] for k in range(len(rest)) if (told >> k) & 1]))
    return found
