"""What becomes of a family if any two bags that share a bead are poured equally likely each time.

A chance is told by lots: a family's lots are to all lots as its chance is to 1.
"""

from sharebags.checks import check_bead, check_few_bags, check_number
from sharebags.masks import lies_within, mask_of, masks_of
from sharebags.pourings import greatest_size, poured_together, sharing_pairs
from sharebags.ratios import common_multiple, ratio

MOST_BAGS = 8


def chances(family, times):
    """The ascending tuple of the pairs (family, ratio of its chance) behind so many pourings."""
    _check_family_and_times(family, times)
    return _shares(_lots_behind(family, times))


def likeliest(family, times):
    """The least of the families with the greatest chance behind so many pourings."""
    _check_family_and_times(family, times)
    lots = _lots_behind(family, times)
    greatest = max(lots.values())
    return min([coarse for coarse in lots if lots[coarse] == greatest])


def mean_greatest(family, times):
    """The ratio of the mean number of beads of a greatest bag behind so many pourings."""
    _check_family_and_times(family, times)
    lots = _lots_behind(family, times)
    return ratio(sum([lots[coarse] * greatest_size(coarse) for coarse in lots]), _all_lots(lots))


def together_chance(family, one, other, times):
    """The ratio of the chance that two beads lie in one bag behind so many pourings."""
    _check_family_and_beads(family, one, other)
    check_number(times, 0, len(family) - 1)
    lots = _lots_behind(family, times)
    whole = _all_lots(lots)
    return ratio(whole - _lots_apart(lots, one, other), whole)


def mean_wait(family, one, other):
    """The ratio of the mean number of pourings until two beads lie in one bag."""
    _check_family_and_beads(family, one, other)
    # One more pouring is waited for as often as they lie apart behind those before it.
    wait = (0, 1)
    lots = {family: 1}
    for _ in range(len(family) - 1):
        top, bottom = wait
        whole = _all_lots(lots)
        wait = ratio(top * whole + bottom * _lots_apart(lots, one, other), bottom * whole)
        lots = _poured_once(lots)
    return wait


def last_pair(family):
    """The ascending tuple of the pairs (family of two bags, ratio of its chance), () for one bag."""
    check_few_bags(family, MOST_BAGS)
    if len(family) == 1:
        return ()
    return _shares(_lots_behind(family, len(family) - 2))


def _check_family_and_times(family, times):
    """Raise the errors of a family, then BadNumber for what is no number of pourings of it."""
    check_few_bags(family, MOST_BAGS)
    check_number(times, 0, len(family) - 1)


def _check_family_and_beads(family, one, other):
    """Raise the errors of a family, then BadBead for values that are not two beads of it."""
    check_few_bags(family, MOST_BAGS)
    check_bead(family, one)
    check_bead(family, other)


def _lots_behind(family, times):
    """The dict of the lots of the families behind so many pourings."""
    lots = {family: 1}
    for _ in range(times):
        lots = _poured_once(lots)
    return lots


def _poured_once(lots):
    """The dict of the lots of the families behind one pouring more."""
    pairs = {family: sharing_pairs(family) for family in lots}
    # With so many times the lots those of each family can be dealt out to its pourings evenly.
    many = common_multiple([len(pairs[family]) for family in pairs])
    found = {}
    for family in pairs:
        each = lots[family] * many // len(pairs[family])
        for pair in pairs[family]:
            coarse = poured_together(family, pair)
            found[coarse] = found.get(coarse, 0) + each
    return found


def _all_lots(lots):
    """The number of all lots."""
    return sum(lots.values())


def _lots_apart(lots, one, other):
    """The number of the lots of the families in which two beads do not lie in one bag."""
    both = mask_of((one,)) | mask_of((other,))
    return sum([lots[family] for family in lots if not lies_within(both, masks_of(family))])


def _shares(lots):
    """The ascending tuple of the pairs of a family and the ratio of its chance."""
    whole = _all_lots(lots)
    return tuple((family, ratio(lots[family], whole)) for family in sorted(lots))
