"""Things that hang together, told by integers."""

from sharebags.masks import beads_of, masks_of
from sharebags.pourings import bead_count


def groups_of(things, masks):
    """The ascending list of the ascending tuples of those of some things that are joined by masks."""
    parts = [1 << thing for thing in things]
    for mask in masks:
        # The parts share nothing: so their sum is the mask of all of them.
        joined = sum([part for part in parts if part & mask])
        if joined:
            parts = [joined, *[part for part in parts if not part & mask]]
    return sorted([beads_of(part) for part in parts])


def groups_without_beads(family, some):
    """The groups of the other beads if some beads are taken away from all bags."""
    left = [bead for bead in range(bead_count(family)) if bead not in some]
    return groups_of(left, masks_of(family))


def groups_without_bag(family, index):
    """The groups of the beads if a bag does not join its beads any more."""
    masks = masks_of([*family[:index], *family[index + 1:]])
    return groups_of(list(range(bead_count(family))), masks)
