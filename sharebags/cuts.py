"""What hangs together when beads or bags are taken away, and what does not."""

from sharebags.checks import check_bead, check_beads, check_family, check_number
from sharebags.groups import groups_without_bag, groups_without_beads
from sharebags.hangings import hung_bags
from sharebags.paths import way_between
from sharebags.pourings import bead_count, degrees_of
from sharebags.tallies import product_of


def without_bead(family, bead):
    """The ascending list of the groups that hang together if a bead is taken away from all bags."""
    check_family(family)
    check_bead(family, bead)
    return groups_without_beads(family, (bead,))


def without_beads(family, some):
    """The ascending list of the groups that hang together if some beads are taken away from all bags."""
    check_family(family)
    check_beads(family, some, 1)
    return groups_without_beads(family, some)


def without_bag(family, index):
    """The ascending list of the groups that hang together if a bag does not join its beads any more."""
    check_family(family)
    check_number(index, 0, len(family) - 1)
    return groups_without_bag(family, index)


def cut_beads(family):
    """The ascending tuple of the beads in two bags or more."""
    check_family(family)
    return tuple(_cut_beads(family))


def outer_bags(family):
    """The ascending tuple of the indexes of the bags with at most one bead that lies in two bags or more."""
    check_family(family)
    cuts = _cut_beads(family)
    counts = [len([bead for bead in bag if bead in cuts]) for bag in family]
    return tuple(index for index in range(len(family)) if counts[index] <= 1)


def hang_together(family, some):
    """Whether all beads on the ways between some beads are some of these."""
    check_family(family)
    check_beads(family, some, 1)
    # The ways from one of them to all are enough: in a tree each other way lies on two of these.
    ways = [way_between(family, some[0], bead) for bead in some]
    return all(bead in some for steps in ways for bead in steps[::2])


def connected_sets(family):
    """The number of sets of beads, not empty, that hang together."""
    check_family(family)
    # For each bead the number of the sets of which it is the one nearest to bead 0.
    nearest = [1] * bead_count(family)
    found = 0
    for stem, own in reversed(hung_bags(family)):
        # Any own beads of the bag may be nearest to bead 0 together: here two or more of them, without the stem.
        chosen = product_of([1 + nearest[bead] for bead in own])
        found += chosen - 1 - sum([nearest[bead] for bead in own])
        nearest[stem] = nearest[stem] * chosen
    return found + sum(nearest)


def fewest_cuts(family, one, other):
    """The ascending tuple of the beads without which two other beads do not hang together."""
    check_family(family)
    check_bead(family, one)
    check_bead(family, other)
    on_way = way_between(family, one, other)[::2]
    return tuple(sorted(on_way[1:-1]))


def most_even(family):
    """The pair (number, bead): the least number of beads of the greatest group without a bead, the least such bead."""
    check_family(family)
    greatest = []
    for bead in range(bead_count(family)):
        greatest.append((max([len(group) for group in groups_without_beads(family, (bead,))]), bead))
    return min(greatest)


def _cut_beads(family):
    """The ascending list of the beads in two bags or more."""
    degrees = degrees_of(family)
    return [bead for bead in range(len(degrees)) if degrees[bead] > 1]
