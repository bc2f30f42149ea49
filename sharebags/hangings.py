"""How the bags of a family hang on one another, seen from bead 0."""


def hung_bags(family):
    """The list of the pairs (stem, tuple of own beads) of the bags, in the order in which they are come to from bead 0.

    The bags of a bead come by their indexes, their own beads ascending, and then the bags of these, bead by bead. So
    each bag comes ahead of all bags that hang on its own beads.
    """
    found = []
    left = list(family)
    reached = [0]
    place = 0
    while place < len(reached):
        stem = reached[place]
        for bag in left:
            if stem in bag:
                own = tuple(bead for bead in bag if bead != stem)
                found.append((stem, own))
                reached.extend(own)
        left = [bag for bag in left if stem not in bag]
        place += 1
    return found
