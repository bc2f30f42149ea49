"""Beads taken out of families and put in, families strung together, and families made of bags that are none."""

from sharebags.bars import hanging_with_first, missing_bead
from sharebags.checks import MOST_BEADS, check_bags, check_bead, check_beads, check_family, check_number
from sharebags.errors import BadBead, BadFamily, TooGreat
from sharebags.masks import masks_of
from sharebags.pourings import bead_count, finest_above, poured_together, with_names


def taken_out(family, bead):
    """The family that is left if a bead is taken out."""
    check_family(family)
    # No family has one bead alone.
    if bead_count(family) == 2:
        raise BadBead()
    check_bead(family, bead)
    return _without(family, bead)


def kept(family, some):
    """The family that is left if all beads but some are taken out."""
    check_family(family)
    check_beads(family, some, 2)
    left = family
    # The greatest bead goes first: so those that are still to go keep their names.
    for bead in reversed(range(bead_count(family))):
        if bead not in some:
            left = _without(left, bead)
    return left


def put_into(family, index):
    """The family with a new greatest bead in a bag."""
    check_family(family)
    check_number(index, 0, len(family) - 1)
    size = bead_count(family)
    _check_size(size + 1)
    return tuple(sorted([*family[:index], (*family[index], size), *family[index + 1:]]))


def hung_on(family, bead):
    """The family with a new greatest bead in a new bag with a bead."""
    check_family(family)
    check_bead(family, bead)
    size = bead_count(family)
    _check_size(size + 1)
    return tuple(sorted([*family, (bead, size)]))


def strung(one, other, first, second):
    """The family of the bags of two families, the bead first of one being the bead second of other."""
    check_family(one)
    check_family(other)
    check_bead(one, first)
    check_bead(other, second)
    size, more = bead_count(one), bead_count(other)
    _check_size(size + more - 1)
    fresh = list(range(size, size + more - 1))
    names = [*fresh[:second], first, *fresh[second:]]
    return tuple(sorted([*one, *with_names(other, names)]))


def mended(bags):
    """The finest family such that each of some bags lies in a bag of it."""
    _check_hanging(bags)
    return _mended(bags)


def mending_number(bags):
    """How many bags fewer the finest family has such that each of some bags lies in a bag of it."""
    _check_hanging(bags)
    return len(bags) - len(_mended(bags))


def _without(family, bead):
    """The family that is left if a bead of three beads or more is taken out."""
    holding = [index for index in range(len(family)) if bead in family[index]]
    left = [_named_without(bag, bead) for bag in poured_together(family, holding)]
    return tuple(sorted([bag for bag in left if len(bag) > 1]))


def _named_without(bag, bead):
    """The beads of a bag but one, with the names that they have when that is taken out."""
    return tuple(other if other < bead else other - 1 for other in bag if other != bead)


def _check_size(size):
    """Raise TooGreat if a family would have more beads than there are."""
    if size > MOST_BEADS:
        raise TooGreat(MOST_BEADS)


def _check_hanging(bags):
    """Raise BadBags for a value that is not bags, BadFamily if they do not hold or join all beads."""
    check_bags(bags)
    masks = masks_of(bags)
    if missing_bead(masks) is not None or len(hanging_with_first(masks)) < len(masks):
        raise BadFamily()


def _mended(bags):
    """The finest family such that each of some bags lies in a bag of it, for bags that hang together."""
    return finest_above(_pairs_inside(bags), bags)


def _pairs_inside(bags):
    """A family of pairs each of which lies in one of some bags that hang together."""
    # Each family that has the bags in bags of its own has these pairs there, too: so it is coarser.
    pairs = []
    reached = {0: True}
    fresh = [0]
    while fresh:
        bead = fresh.pop()
        beside = sorted({other for bag in bags if bead in bag for other in bag if other not in reached})
        for other in beside:
            reached[other] = True
        fresh.extend(beside)
        pairs.extend([tuple(sorted([bead, other])) for other in beside])
    return tuple(sorted(pairs))
