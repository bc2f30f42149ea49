"""Products, powers and tallies of families, for arguments that are known to be good."""

from sharebags.arrangements import count_arrangements
from sharebags.partitions import partitions_by_parts


def product_of(numbers):
    """The product of numbers, 1 for none."""
    whole = 1
    for number in numbers:
        whole = whole * number
    return whole


def power(base, times):
    """The product of so many times a base."""
    return product_of([base] * times)


def multiplied(one, other):
    """The list of the coefficients of the product of two polynomials that are told by theirs."""
    found = [0] * (len(one) + len(other) - 1)
    for i, first in enumerate(one):
        for j, second in enumerate(other):
            found[i + j] += first * second
    return found


def families_by_bags(size):
    """The list of the numbers of families of so many beads with 1, 2, .., size - 1 bags."""
    row = partitions_by_parts(size - 1)
    found = []
    # A family is told by a partition of the beads but 0 and a bead for each part but one.
    stems = 1
    for bags in range(1, size):
        found.append(row[bags] * stems)
        stems = stems * size
    return found


def families_by_degrees(degrees):
    """The number of families whose beads 0, 1, .. lie in so many bags, 0 if there is none."""
    bags = sum(degrees) - len(degrees) + 1
    if bags >= len(degrees):
        return 0
    # In the code of a family a bead is a stem once less than it has bags.
    return partitions_by_parts(len(degrees) - 1)[bags] * count_arrangements([degree - 1 for degree in degrees])
