"""Ways of beads and their lengths, what lies in their middle and at their ends, and what hangs at a bag."""

from sharebags.checks import check_bead, check_beads, check_family, check_number
from sharebags.paths import all_distances, distances_from, way_between
from sharebags.pourings import bags_on_ways


def bead_way(family, one, other):
    """The way between two beads: the tuple bead, index of a bag, bead, .. from one to the other."""
    check_family(family)
    check_bead(family, one)
    check_bead(family, other)
    return way_between(family, one, other)


def far(family, one, other):
    """The distance of two beads: the number of bags on the way between them."""
    check_family(family)
    check_bead(family, one)
    check_bead(family, other)
    return distances_from(family, one)[other]


def far_from(family, bead):
    """The tuple of the distances of all beads from one."""
    check_family(family)
    check_bead(family, bead)
    return tuple(distances_from(family, bead))


def sum_far(family):
    """The sum of the distances of all pairs of beads."""
    check_family(family)
    # Each pair is told from both of its beads.
    return sum(_sums(family)) // 2


def sums_far(family):
    """The tuple, for each bead, of the sum of the distances of all beads from it."""
    check_family(family)
    return tuple(_sums(family))


def far_tally(family):
    """The tuple of the numbers of pairs of beads at the distances 1, 2, .. up to the greatest one."""
    check_family(family)
    pairs = _pairs_with_distances(family)
    greatest = max(distance for distance, pair in pairs)
    counts = [0] * greatest
    for distance, _ in pairs:
        counts[distance - 1] += 1
    return tuple(counts)


def width(family):
    """The greatest distance of two beads."""
    check_family(family)
    return max(max(row) for row in all_distances(family))


def ends(family):
    """The least pair of beads at the greatest distance."""
    check_family(family)
    pairs = _pairs_with_distances(family)
    greatest = max(distance for distance, pair in pairs)
    return min(pair for distance, pair in pairs if distance == greatest)


def middles(family):
    """The ascending tuple of the beads whose greatest distance is least."""
    check_family(family)
    return _places_of_least([max(row) for row in all_distances(family)])


def hubs(family):
    """The ascending tuple of the beads whose sum of distances is least."""
    check_family(family)
    return _places_of_least(_sums(family))


def meeting(family, one, other, third):
    """What lies on the ways between any two of three beads: ("bead", bead), or ("bag", index) if no bead does."""
    check_family(family)
    for bead in (one, other, third):
        check_bead(family, bead)
    first = way_between(family, one, other)
    second = way_between(family, one, third)
    last = way_between(family, other, third)
    met = [bead for bead in first[::2] if bead in second[::2] and bead in last[::2]]
    if met:
        return ("bead", met[0])
    met = [index for index in first[1::2] if index in second[1::2] and index in last[1::2]]
    return ("bag", met[0])


def nearest(family, bead, some):
    """The least of those of some beads that are nearest to a bead."""
    check_family(family)
    check_bead(family, bead)
    check_beads(family, some, 1)
    distances = distances_from(family, bead)
    return min([(distances[other], other) for other in some])[1]


def hull(family, some):
    """The pair of the ascending tuples of the beads and of the indexes of the bags on the ways between some beads."""
    check_family(family)
    check_beads(family, some, 1)
    # The ways from one of them to all are enough: in a tree each other way lies on two of these.
    found = [way_between(family, some[0], bead) for bead in some]
    beads = sorted({bead for steps in found for bead in steps[::2]})
    indexes = sorted({index for steps in found for index in steps[1::2]})
    return (tuple(beads), tuple(indexes))


def sides(family, index):
    """The tuple, for each bead of a bag, of the number of beads that hang at it without the bag, itself included."""
    check_family(family)
    check_number(index, 0, len(family) - 1)
    return tuple(_count_hanging(family, index, bead) for bead in family[index])


def _sums(family):
    """The list, for each bead, of the sum of the distances of all beads from it."""
    return [sum(row) for row in all_distances(family)]


def _pairs_with_distances(family):
    """The list of the pairs (distance, ascending pair of beads)."""
    rows = all_distances(family)
    return [(rows[one][other], (one, other)) for other in range(len(rows)) for one in range(other)]


def _places_of_least(numbers):
    """The ascending tuple of the places of the least of numbers."""
    least = min(numbers)
    return tuple(place for place in range(len(numbers)) if numbers[place] == least)


def _count_hanging(family, index, bead):
    """The number of beads that hang at a bead without a bag, itself included."""
    on_ways = bags_on_ways(family, bead)
    return len([other for other in on_ways if index not in on_ways[other]])
