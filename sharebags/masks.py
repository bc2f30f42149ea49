"""Bags as masks: integers whose bit b tells whether bead b lies in the bag.

Sets are not at hand as values, and meetings and unions of masks are single operations.
"""


def mask_of(bag):
    """The mask of a bag."""
    return sum(1 << bead for bead in bag)


def masks_of(bags):
    """The list of the masks of bags."""
    return [mask_of(bag) for bag in bags]


def beads_of(mask):
    """The ascending tuple of the beads of a mask."""
    return tuple(bead for bead in range(mask.bit_length()) if (mask >> bead) & 1)


def holds_two(mask):
    """Whether a mask has two beads or more."""
    return (mask & (mask - 1)) != 0


def lies_within(mask, wholes):
    """Whether a mask lies in one of the masks in a list."""
    return any((mask & whole) == mask for whole in wholes)
