"""Codes of families, and families by their numbers."""

from sharebags.checks import MOST_BEADS, check_family, check_number, is_ascending, is_bead_tuple, is_between
from sharebags.coding import code_of, family_with, parts_of, word_of
from sharebags.errors import BadCode
from sharebags.partitions import word_at, word_number
from sharebags.pourings import bead_count
from sharebags.tallies import families_by_bags, power


def code(family):
    """The pair of the ascending tuple of the tuples of own beads and the tuple of stems."""
    check_family(family)
    return code_of(family)


def family_of(value):
    """The family with a code."""
    if not _is_code(value):
        raise BadCode()
    return family_with(value)


def family_number(family):
    """The number of a family among those with as many beads and bags."""
    check_family(family)
    return _number_of(family)


def family_at(size, bags, index):
    """The family with a number among those with so many beads and bags."""
    check_number(size, 2, MOST_BEADS)
    check_number(bags, 1, size - 1)
    check_number(index, 0, families_by_bags(size)[bags - 1] - 1)
    return _family_numbered(size, bags, index)


def next_family(family):
    """The family behind one among those with as many beads and bags, None for the last one."""
    check_family(family)
    size, bags = bead_count(family), len(family)
    index = _number_of(family) + 1
    if index == families_by_bags(size)[bags - 1]:
        return None
    return _family_numbered(size, bags, index)


def _is_code(value):
    """Whether a value is the code of a family."""
    if not isinstance(value, tuple) or len(value) != 2:
        return False
    parts, stems = value
    if not _is_partition(parts) or not isinstance(stems, tuple):
        return False
    size = sum(len(own) for own in parts) + 1
    return len(stems) == len(parts) - 1 and all(is_between(stem, 0, size - 1) for stem in stems)


def _is_partition(value):
    """Whether a value is an ascending partition of the beads 1, 2, .. up to the greatest one."""
    if not isinstance(value, tuple) or not value:
        return False
    if not all(is_bead_tuple(own) and len(own) > 0 for own in value) or not is_ascending(value):
        return False
    held = sorted([bead for own in value for bead in own])
    return held == list(range(1, len(held) + 1))


def _number_of(family):
    """The number of a family that is known to be one."""
    parts, stems = code_of(family)
    number = word_number(word_of(parts))
    size = bead_count(family)
    for stem in stems:
        number = number * size + stem
    return number


def _family_numbered(size, bags, index):
    """The family with a number that is known to be one."""
    word, left = divmod(index, power(size, bags - 1))
    stems = []
    for _ in range(bags - 1):
        left, stem = divmod(left, size)
        stems.append(stem)
    return family_with((parts_of(word_at(size - 1, bags, word)), tuple(stems[::-1])))
