"""Pouring and parting in families that are known to be families."""

from sharebags.bars import first_bar
from sharebags.masks import beads_of, holds_two, lies_within, mask_of, masks_of


def bead_count(family):
    """The number of beads of a family."""
    return max(bag[-1] for bag in family) + 1


def greatest_size(family):
    """The number of beads of a greatest bag of a family."""
    return max(len(bag) for bag in family)


def degrees_of(family):
    """The list of the numbers of bags that hold each bead."""
    counts = [0] * bead_count(family)
    for bag in family:
        for bead in bag:
            counts[bead] += 1
    return counts


def with_names(bags, names):
    """The ascending tuple of bags whose beads 0, 1, .. are replaced by names."""
    return tuple(sorted([tuple(sorted([names[bead] for bead in bag])) for bag in bags]))


def sharing_pairs(family):
    """The ascending tuple of the ascending pairs of indexes of bags that share a bead."""
    masks = masks_of(family)
    many = len(masks)
    return tuple((i, j) for i in range(many) for j in range(i + 1, many) if masks[i] & masks[j])


def poured_together(family, indexes):
    """The family with the bags with some indexes poured into one."""
    whole = tuple(sorted({bead for k in indexes for bead in family[k]}))
    others = [family[k] for k in range(len(family)) if k not in indexes]
    return tuple(sorted([*others, whole]))


def parted_at(family, index, bead, side):
    """The family with a bag parted into the bag of bead and side, and that of bead and the others."""
    bag = family[index]
    first = tuple(sorted([bead, *side]))
    second = tuple(other for other in bag if other not in side)
    return tuple(sorted([*family[:index], first, second, *family[index + 1:]]))


def lies_below(fine, coarse):
    """Whether each bag of fine lies in a bag of coarse."""
    wholes = masks_of(coarse)
    return all(lies_within(mask_of(bag), wholes) for bag in fine)


def bags_on_ways(family, start):
    """For each bead the list of the indexes of the bags on the way to it from a bead."""
    holding = {}
    for index, bag in enumerate(family):
        for bead in bag:
            holding.setdefault(bead, []).append(index)
    ways = {start: []}
    fresh = [start]
    while fresh:
        bead = fresh.pop()
        for index in holding[bead]:
            for neighbor in family[index]:
                # In a tree the first way that comes to a bead is the only one.
                if neighbor not in ways:
                    ways[neighbor] = [*ways[bead], index]
                    fresh.append(neighbor)
    return ways


def with_bag_inside(family, bag):
    """The finest coarser family in which a bag lies in one bag."""
    ways = bags_on_ways(family, bag[0])
    # A coarser family with two beads in one bag has all bags on the way between them in that bag.
    return poured_together(family, sorted({index for bead in bag for index in ways[bead]}))


def finest_above(one, other):
    """The finest family that is coarser than two families."""
    grown = one
    for bag in other:
        grown = with_bag_inside(grown, bag)
    return grown


def coarsest_below(one, other):
    """The coarsest family that is finer than two families with as many beads, None if there is none."""
    met = [mask & beside for mask in masks_of(one) for beside in masks_of(other)]
    found = tuple(sorted([beads_of(mask) for mask in met if holds_two(mask)]))
    if not found or first_bar(found) is not None:
        return None
    # Meetings may be a family of fewer beads, which is not finer.
    return found if bead_count(found) == bead_count(one) else None


def poured_below(family, coarse):
    """The list of the families that come by one pouring and are finer than coarse."""
    masks = masks_of(family)
    found = []
    for whole in masks_of(coarse):
        inside = [k for k in range(len(masks)) if lies_within(masks[k], [whole])]
        pairs = [(i, j) for i in inside for j in inside if i < j and masks[i] & masks[j]]
        found.extend([poured_together(family, pair) for pair in pairs])
    return found


def climb(fine, coarse):
    """The list of the families on a way of pourings from fine to coarse, both included."""
    families = [fine]
    while len(families[-1]) > len(coarse):
        families.append(poured_below(families[-1], coarse)[0])
    return families
