"""Ways between beads, for families and beads that are known to be good."""

from sharebags.pourings import bags_on_ways, bead_count


def way_between(family, one, other):
    """The tuple bead, index of a bag, bead, .. from one bead to another."""
    indexes = bags_on_ways(family, one)[other]
    steps = [one]
    for k in range(len(indexes)):
        steps.append(indexes[k])
        if k + 1 < len(indexes):
            steps.append(_shared_bead(family[indexes[k]], family[indexes[k + 1]]))
        else:
            steps.append(other)
    return tuple(steps)


def distances_from(family, bead):
    """The list of the distances of all beads from one."""
    ways = bags_on_ways(family, bead)
    return [len(ways[other]) for other in range(bead_count(family))]


def all_distances(family):
    """The list, for each bead, of the list of the distances of all beads from it."""
    return [distances_from(family, bead) for bead in range(bead_count(family))]


def _shared_bead(one, other):
    """The one bead that two bags share."""
    return [bead for bead in one if bead in other][0]
