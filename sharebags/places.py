"""Coarser and finer families by their numbers."""

from sharebags.checks import check_coarser, check_family, check_finer, check_number
from sharebags.codes import family_at, family_number
from sharebags.counts import count_coarser, count_finer
from sharebags.digits import digits_at, number_with
from sharebags.groups import groups_of
from sharebags.masks import lies_within, mask_of
from sharebags.partitions import all_partitions, free_word_at, free_word_number
from sharebags.pourings import bead_count, degrees_of, with_names
from sharebags.tallies import families_by_bags, product_of


def one_place(family):
    """The pair of the numbers of the families coarser and finer than a family."""
    return (count_coarser(family), count_finer(family))


def coarser_at(family, index):
    """The family with a number among those coarser than a family."""
    check_family(family)
    bases = _coarser_bases(family)
    check_number(index, 0, product_of(bases) - 1)
    joined = []
    for bead, digit in enumerate(digits_at(bases, index)):
        joined.extend(_parts_at(_holding(family, bead), digit))
    return _poured_in_groups(family, groups_of(list(range(len(family))), joined))


def coarser_number(family, coarse):
    """The number of a family among those coarser than a family."""
    check_coarser(family, coarse)
    wholes = [_whole_of(coarse, bag) for bag in family]
    digits = []
    for bead in range(bead_count(family)):
        digits.append(free_word_number(_word_of([wholes[index] for index in _holding(family, bead)])))
    return number_with(_coarser_bases(family), digits)


def finer_at(family, index):
    """The family with a number among those finer than a family."""
    check_family(family)
    bases = _finer_bases(family)
    check_number(index, 0, product_of(bases) - 1)
    found = []
    for bag, digit in zip(family, digits_at(bases, index)):
        found.extend(with_names(_family_placed(len(bag), digit), bag))
    return tuple(sorted(found))


def finer_number(family, fine):
    """The number of a family among those finer than a family."""
    check_finer(family, fine)
    return number_with(_finer_bases(family), [_place_inside(fine, bag) for bag in family])


def _coarser_bases(family):
    """The list, for each bead, of the number of partitions of its bags."""
    return [all_partitions(degree) for degree in degrees_of(family)]


def _finer_bases(family):
    """The list, for each bag, of the number of families of its beads."""
    return [sum(families_by_bags(len(bag))) for bag in family]


def _holding(family, bead):
    """The ascending list of the indexes of the bags that hold a bead."""
    return [index for index in range(len(family)) if bead in family[index]]


def _parts_at(indexes, number):
    """The list of the masks of the parts of the partition of some indexes with a number."""
    word = free_word_at(len(indexes), number)
    names = list(range(max(word) + 1))
    return [mask_of([index for index, part in zip(indexes, word) if part == name]) for name in names]


def _poured_in_groups(family, groups):
    """The family with the bags of each group of indexes poured into one."""
    wholes = [sorted({bead for index in group for bead in family[index]}) for group in groups]
    return tuple(sorted([tuple(whole) for whole in wholes]))


def _whole_of(coarse, bag):
    """The index of the bag of a coarser family in which a bag lies."""
    mask = mask_of(bag)
    return [index for index in range(len(coarse)) if lies_within(mask, [mask_of(coarse[index])])][0]


def _word_of(wholes):
    """The word of the partition in which things with the same whole are in one part."""
    begun = []
    for whole in wholes:
        if whole not in begun:
            begun.append(whole)
    return [begun.index(whole) for whole in wholes]


def _family_placed(size, place):
    """The family at a place among all with so many beads, those with fewer bags ahead."""
    many = families_by_bags(size)
    bags = 1
    left = place
    while left >= many[bags - 1]:
        left -= many[bags - 1]
        bags += 1
    return family_at(size, bags, left)


def _place_inside(fine, whole):
    """The place of the bags of a finer family in a bag among all families of its beads."""
    mask = mask_of(whole)
    inside = [bag for bag in fine if lies_within(mask_of(bag), [mask])]
    named = tuple(tuple(whole.index(bead) for bead in bag) for bag in inside)
    return sum(families_by_bags(len(whole))[:len(named) - 1]) + family_number(named)
