"""Ways between bags, and families by their numbers among those with the same degrees."""

from sharebags.arrangements import arrangement_at, arrangement_number, count_arrangements
from sharebags.checks import MOST_BEADS, are_integers, check_bead, check_family, check_number
from sharebags.coding import code_of, family_with, parts_of, word_of
from sharebags.errors import BadSizes
from sharebags.partitions import word_at, word_number
from sharebags.paths import distances_from, way_between
from sharebags.pourings import degrees_of
from sharebags.tallies import families_by_degrees


def bag_way(family, one, other):
    """The way between two bags: the tuple index, bead, index, .. from one to the other."""
    _check_indexes(family, one, other)
    return _way_of_bags(family, one, other)


def bag_far(family, one, other):
    """The number of beads on the way between two bags."""
    _check_indexes(family, one, other)
    return len(_way_of_bags(family, one, other)) // 2


def gate(family, index, bead):
    """The bead of a bag that is nearest to a bead."""
    check_family(family)
    check_number(index, 0, len(family) - 1)
    check_bead(family, bead)
    distances = distances_from(family, bead)
    return min([(distances[other], other) for other in family[index]])[1]


def degree_number(family):
    """The number of a family among those with the same degrees."""
    check_family(family)
    parts, stems = code_of(family)
    counts = [degree - 1 for degree in degrees_of(family)]
    return word_number(word_of(parts)) * count_arrangements(counts) + arrangement_number(counts, stems)


def degree_family(value, index):
    """The family with a number among those whose beads 0, 1, .. lie in told numbers of bags."""
    many = _count_checked(value)
    check_number(index, 0, many - 1)
    counts = [degree - 1 for degree in value]
    word, place = divmod(index, count_arrangements(counts))
    parts = parts_of(word_at(len(counts) - 1, sum(counts) + 1, word))
    return family_with((parts, tuple(arrangement_at(counts, place))))


def _check_indexes(family, one, other):
    """Raise the errors of a family, then BadNumber for values that are not the indexes of two bags of it."""
    check_family(family)
    check_number(one, 0, len(family) - 1)
    check_number(other, 0, len(family) - 1)


def _way_of_bags(family, one, other):
    """The way between two bags that the family is known to have."""
    if one == other:
        return (one,)
    steps = way_between(family, family[one][0], family[other][0])
    # The way between two of their beads goes by these bags themselves, or ends just ahead of them.
    if len(steps) > 1 and steps[1] == one:
        steps = steps[2:]
    if len(steps) > 1 and steps[-2] == other:
        steps = steps[:-2]
    return (one, *steps, other)


def _count_checked(value):
    """The number of families with told degrees, BadSizes for what tells no degrees of a family."""
    if not are_integers(value, 1, MOST_BEADS) or not 2 <= len(value) <= MOST_BEADS:
        raise BadSizes()
    many = families_by_degrees(value)
    if many == 0:
        raise BadSizes()
    return many
