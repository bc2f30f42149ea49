"""All families of few beads, and how many lie how many moves away."""

from sharebags.checks import MOST_BEADS, check_few_beads, check_number
from sharebags.codes import family_at
from sharebags.pourings import bead_count
from sharebags.steps import fewest_moves, next_sphere
from sharebags.tallies import families_by_bags
from sharebags.trees import shape_of

MOST_LISTED_BEADS = 5
MOST_PAIRED_BEADS = 4
MOST_SPHERE_BEADS = 6
GREATEST_SPHERE = 6


def all_families(size):
    """The ascending list of all families with so many beads."""
    check_number(size, 2, MOST_LISTED_BEADS)
    return _all_families(size)


def families_with(size, bags):
    """The list of the families with so many beads and bags by their numbers."""
    check_number(size, 2, MOST_LISTED_BEADS)
    check_number(bags, 1, size - 1)
    return _families_with(size, bags)


def shapes(size):
    """The ascending tuple of the pairs (shape, number of families with it) of the families with so many beads."""
    check_number(size, 2, MOST_LISTED_BEADS)
    counts = {}
    for family in _all_families(size):
        text = shape_of(family)
        counts[text] = counts.get(text, 0) + 1
    return tuple((text, counts[text]) for text in sorted(counts))


def farthest_pairs(size):
    """The pair (greatest distance of two families with so many beads, number of ordered pairs at it)."""
    check_number(size, 2, MOST_PAIRED_BEADS)
    families = _all_families(size)
    return _greatest_of([fewest_moves(one, other) for one in families for other in families])


def farthest(family):
    """The pair (greatest distance of a family, number of families at it)."""
    check_few_beads(family, MOST_LISTED_BEADS)
    return _greatest_of([fewest_moves(family, other) for other in _all_families(bead_count(family))])


def sphere_sizes(family, size):
    """The tuple of the numbers of families 0, 1, .., size moves away."""
    _check_family_and_size(family, size)
    return tuple(len(found) for found in _spheres(family, size))


def sphere(family, size):
    """The ascending list of the families just size moves away."""
    _check_family_and_size(family, size)
    return _spheres(family, size)[-1]


def _check_family_and_size(family, size):
    """Raise the errors of a family, then BadNumber for what is no number of moves away."""
    check_few_beads(family, MOST_SPHERE_BEADS)
    check_number(size, 0, GREATEST_SPHERE)


def _families_with(size, bags):
    """The list of the families with so many beads and bags, numbers that are known to be good."""
    return [family_at(size, bags, index) for index in range(families_by_bags(size)[bags - 1])]


def _all_families(size):
    """The ascending list of all families with so many beads, a number that is known to be good."""
    return sorted([family for bags in range(1, size) for family in _families_with(size, bags)])


def _greatest_of(distances):
    """The pair (greatest distance, how often it stands there)."""
    greatest = max(distances)
    return (greatest, distances.count(greatest))


def _spheres(family, size):
    """The list of the ascending lists of the families 0, 1, .., size moves away."""
    found = [[family]]
    for _ in range(size):
        found.append(next_sphere(found, MOST_BEADS))
    return found
