"""How many families there are with told beads, bags, sizes and degrees, and what holds of them in the mean."""

from math import comb, factorial

from sharebags.arrangements import count_arrangements
from sharebags.checks import are_integers, check_number
from sharebags.errors import BadSizes
from sharebags.partitions import partitions_by_parts
from sharebags.ratios import ratio
from sharebags.tallies import families_by_bags, families_by_degrees, power, product_of

MOST_COUNTED = 200


def count_with_bags(size, bags):
    """The number of families with so many beads and bags."""
    _check_beads_and_bags(size, bags)
    return families_by_bags(size)[bags - 1]


def mean_bags(size):
    """The ratio of the mean number of bags of the families with so many beads."""
    check_number(size, 2, MOST_COUNTED)
    row = families_by_bags(size)
    return ratio(sum([bags * many for bags, many in enumerate(row, start=1)]), sum(row))


def mean_degree(size, bags):
    """The ratio of the mean number of bags of a bead."""
    _check_beads_and_bags(size, bags)
    # A tree has one line less than it has beads and bags: so many times a bead lies in a bag.
    return ratio(size + bags - 1, size)


def degree_share(size, bags, degree):
    """The ratio of the families in which bead 0 lies in just so many bags to all."""
    _check_beads_and_bags(size, bags)
    check_number(degree, 1, MOST_COUNTED)
    # Of the stems in a code, any of all beads, so many less 1 are bead 0.
    stems = bags - 1
    return ratio(comb(stems, degree - 1) * power(size - 1, stems - degree + 1), power(size, stems))


def outer_mean(size, bags):
    """The ratio of the mean number of beads that lie in just one bag."""
    _check_beads_and_bags(size, bags)
    stems = bags - 1
    return ratio(size * power(size - 1, stems), power(size, stems))


def together_share(size):
    """The ratio of the families in which beads 0 and 1 share a bag to all."""
    check_number(size, 2, MOST_COUNTED)
    many = sum(families_by_bags(size))
    # All pairs of beads share a bag in as many families: so those that do are counted over all pairs. In each family
    # each bead but 0 is an own bead of one bag, and shares that with its stem; besides, two own beads may share it.
    sharing = (size - 1) * many + comb(size - 1, 2) * _count_with_own_pair(size)
    return ratio(sharing, comb(size, 2) * many)


def count_with_sizes(value):
    """The number of families whose bags have told numbers of beads."""
    _check_sizes(value)
    own = [size - 1 for size in value]
    # Parts with as many beads may be exchanged.
    orders = product_of([factorial(own.count(many)) for many in sorted(set(own))])
    return count_arrangements(own) // orders * power(sum(own) + 1, len(own) - 1)


def count_with_degrees(value):
    """The number of families whose beads 0, 1, .. lie in told numbers of bags."""
    if not are_integers(value, 1, MOST_COUNTED) or not 2 <= len(value) <= MOST_COUNTED:
        raise BadSizes()
    return families_by_degrees(value)


def _check_beads_and_bags(size, bags):
    """Raise BadNumber for what is no number of beads, or no number of bags that so many beads may have."""
    check_number(size, 2, MOST_COUNTED)
    check_number(bags, 1, size - 1)


def _check_sizes(value):
    """Raise BadSizes for what is no tuple of the numbers of beads of the bags of a family that is counted."""
    if not are_integers(value, 2, MOST_COUNTED) or not value:
        raise BadSizes()
    if sum(value) - len(value) + 1 > MOST_COUNTED:
        raise BadSizes()


def _count_with_own_pair(size):
    """The number of families in which two told beads, both but 0, are own beads of one bag."""
    # Their codes are those with the two beads taken for one in the partition.
    row = partitions_by_parts(size - 2)
    return sum([many * power(size, stems) for stems, many in enumerate(row[1:])])
