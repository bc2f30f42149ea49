"""What bars bags from being a family: bags are told by their masks here."""

from sharebags.masks import holds_two, masks_of


def missing_bead(masks):
    """The least bead below the greatest one that lies in no bag, None if there is none."""
    held = 0
    for mask in masks:
        held = held | mask
    for bead in range(held.bit_length()):
        if not (held >> bead) & 1:
            return bead
    return None


def first_double(masks):
    """The pair (i, j) of two bags that share two beads, least j first, None if there is none."""
    for j in range(len(masks)):
        for i in range(j):
            if holds_two(masks[i] & masks[j]):
                return (i, j)
    return None


def hanging_with_first(masks):
    """The ascending tuple of the indexes of the bags that hang together with the first one."""
    joined = 0
    grown = masks[0]
    while joined != grown:
        joined = grown
        for mask in masks:
            if mask & grown:
                grown = grown | mask
    return tuple(k for k in range(len(masks)) if masks[k] & joined)


def twice_held(masks):
    """The mask of the beads that lie in two of the masks or more."""
    once = 0
    twice = 0
    for mask in masks:
        twice = twice | (once & mask)
        once = once | mask
    return twice


def left_in_rings(masks):
    """The ascending tuple of the indexes of the bags that are not taken away as those outside of rings are."""
    left = []
    kept = list(range(len(masks)))
    while left != kept:
        left = kept
        shared = twice_held([masks[k] for k in left])
        kept = [k for k in left if holds_two(masks[k] & shared)]
    return tuple(left)


def first_bar(bags):
    """The first thing that bars bags from being a family, as a tuple, None for a family."""
    masks = masks_of(bags)
    missing = missing_bead(masks)
    if missing is not None:
        return ("bead", missing)
    double = first_double(masks)
    if double is not None:
        return ("two", double[0], double[1])
    joined = hanging_with_first(masks)
    if len(joined) < len(masks):
        return ("apart", joined)
    ring = left_in_rings(masks)
    if ring:
        return ("ring", ring)
    return None
