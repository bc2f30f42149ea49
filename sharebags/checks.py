"""Checks of the values that are passed to the functions of the package."""

from sharebags.bars import first_bar
from sharebags.errors import BadBags, BadBead, BadBeads, BadFamily, BadNumber
from sharebags.errors import NotCoarser, OtherBeads, TooGreat, TooMany
from sharebags.pourings import bead_count, lies_below

MOST_BEADS = 60
MOST_LISTED = 500
MOST_FAMILIES = 20


def is_integer(value):
    """Whether a value is an integer; True and False are none, though Python takes them for integers."""
    return isinstance(value, int) and not isinstance(value, bool)


def is_between(value, least, most):
    """Whether a value is an integer from least to most."""
    return is_integer(value) and least <= value <= most


def is_ascending(items):
    """Whether each item is below the one behind it."""
    return all(items[k] < items[k + 1] for k in range(len(items) - 1))


def are_integers(value, least, most):
    """Whether a value is a tuple of integers from least to most, or the empty one."""
    return isinstance(value, tuple) and all(is_between(number, least, most) for number in value)


def is_bead_tuple(value):
    """Whether a value is an ascending tuple of beads, or the empty one."""
    return are_integers(value, 0, MOST_BEADS - 1) and is_ascending(value)


def is_bag(value):
    """Whether a value is an ascending tuple of two beads or more."""
    return is_bead_tuple(value) and len(value) >= 2


def are_bags(value):
    """Whether a value is an ascending tuple of different bags, one at least."""
    if not isinstance(value, tuple) or not value:
        return False
    return all(is_bag(bag) for bag in value) and is_ascending(value)


def makes_family(value):
    """Whether any value is a family."""
    return are_bags(value) and first_bar(value) is None


def check_bags(value):
    """Raise BadBags for a value that is not bags."""
    if not are_bags(value):
        raise BadBags()


def check_family(value):
    """Raise BadBags for a value that is not bags, BadFamily for bags that are no family."""
    check_bags(value)
    if first_bar(value) is not None:
        raise BadFamily()


def check_few_bags(value, most):
    """Raise the errors of a family, then TooGreat for one with more bags than so many."""
    check_family(value)
    if len(value) > most:
        raise TooGreat(most)


def check_few_beads(value, most):
    """Raise the errors of a family, then TooGreat for one with more beads than so many."""
    check_family(value)
    if bead_count(value) > most:
        raise TooGreat(most)


def check_family_tuple(value):
    """Raise BadNumber for a value that is no tuple of 1 to 20 items, then the errors of its families in their order."""
    if not isinstance(value, tuple) or not 1 <= len(value) <= MOST_FAMILIES:
        raise BadNumber()
    for family in value:
        check_family(family)


def check_same_beads(families):
    """Raise OtherBeads if not all families have as many beads."""
    if any(bead_count(family) != bead_count(families[0]) for family in families):
        raise OtherBeads()


def check_families(one, other):
    """Raise the errors of two families, then OtherBeads if they have different numbers of beads."""
    check_family(one)
    check_family(other)
    check_same_beads([one, other])


def check_finer(coarse, fine):
    """Raise the errors of two families, then NotCoarser if coarse is not coarser than fine."""
    check_families(coarse, fine)
    if not lies_below(fine, coarse):
        raise NotCoarser()


def check_coarser(fine, coarse):
    """Raise the errors of two families, then NotCoarser if coarse is not coarser than fine."""
    check_families(fine, coarse)
    if not lies_below(fine, coarse):
        raise NotCoarser()


def check_number(value, least, most):
    """Raise BadNumber for a value that is no integer from least to most."""
    if not is_between(value, least, most):
        raise BadNumber()


def check_bead(family, value):
    """Raise BadBead for a value that is no bead of a family."""
    if not is_between(value, 0, bead_count(family) - 1):
        raise BadBead()


def check_beads(family, value, least):
    """Raise BadBeads for a value that is no ascending tuple of so many beads of a family or more."""
    if not is_bead_tuple(value) or len(value) < least or value[-1] >= bead_count(family):
        raise BadBeads()


def check_listed(many):
    """Raise TooMany if a list would have more members than are listed."""
    if many > MOST_LISTED:
        raise TooMany(MOST_LISTED)
