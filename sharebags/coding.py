"""Codes of families, for values that are known to be families and codes."""

from sharebags.pourings import bags_on_ways


def stems_of(family):
    """The list of the stems of the bags: the bead of each one that is nearest to bead 0."""
    ways = bags_on_ways(family, 0)
    return [min([(len(ways[bead]), bead) for bead in bag])[1] for bag in family]


def code_of(family):
    """The code of a family: the pair of the tuple of the own beads of the bags and the tuple of stems."""
    stems = stems_of(family)
    left = sorted([(_others(bag, stem), stem) for bag, stem in zip(family, stems)])
    parts = tuple(own for own, stem in left)
    written = []
    while len(left) > 1:
        hanging = [stem for own, stem in left]
        free = [(own, stem) for own, stem in left if _holds_none(own, hanging)]
        written.append(free[0][1])
        left.remove(free[0])
    return (parts, tuple(written))


def family_with(code):
    """The family with a code."""
    parts, stems = code
    left = list(parts)
    bags = []
    for step, stem in enumerate(stems):
        free = [own for own in left if _holds_none(own, stems[step:])]
        bags.append(_bag_of(free[0], stem))
        left.remove(free[0])
    # The bag that is left holds bead 0: all others hang on its own beads, or on bead 0 as it does.
    bags.append(_bag_of(left[0], 0))
    return tuple(sorted(bags))


def word_of(parts):
    """The list, for each bead but 0, of the index of its part."""
    places = {bead: index for index, own in enumerate(parts) for bead in own}
    return [places[bead] for bead in range(1, len(places) + 1)]


def parts_of(word):
    """The tuple of the parts of the beads but 0 that a word tells."""
    parts = [[] for _ in range(max(word) + 1)]
    for place, index in enumerate(word):
        parts[index].append(place + 1)
    return tuple(tuple(own) for own in parts)


def _others(bag, stem):
    """The tuple of the beads of a bag but its stem."""
    return tuple(bead for bead in bag if bead != stem)


def _bag_of(own, stem):
    """The bag with its own beads and its stem."""
    return tuple(sorted([stem, *own]))


def _holds_none(own, stems):
    """Whether no stem is one of some own beads."""
    return not any(stem in own for stem in stems)
