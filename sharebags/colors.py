"""Colorings of the beads: how many there are, and the number of each one of those with no two alike in a bag."""

from sharebags.checks import are_integers, check_family, check_number
from sharebags.digits import digits_at, number_with
from sharebags.errors import BadNumber
from sharebags.hangings import hung_bags
from sharebags.pourings import bead_count, greatest_size
from sharebags.tallies import power, product_of

MOST_COLORS = 60


def unlike(family, colors):
    """The number of colorings with no two beads alike in a bag."""
    _check_family_and_colors(family, colors)
    return product_of(_bases(family, colors))


def not_alike(family, colors):
    """The number of colorings in which no bag has all beads alike."""
    _check_family_and_colors(family, colors)
    # The own beads of a bag may have any colors, but not all that of the stem.
    return colors * product_of([power(colors, len(bag) - 1) - 1 for bag in family])


def fewest_colors(family):
    """The fewest colors for a coloring with no two beads alike in a bag."""
    check_family(family)
    return greatest_size(family)


def coloring_at(family, colors, index):
    """The coloring with a number among those with no two beads alike in a bag."""
    _check_family_and_colors(family, colors)
    bases = _bases(family, colors)
    check_number(index, 0, product_of(bases) - 1)
    digits = digits_at(bases, index)
    chosen = {0: digits[0]}
    place = 1
    for stem, own in hung_bags(family):
        left = [color for color in range(colors) if color != chosen[stem]]
        for bead in own:
            chosen[bead] = left.pop(digits[place])
            place += 1
    return tuple(chosen[bead] for bead in range(len(chosen)))


def coloring_number(family, colors, value):
    """The number of a coloring among those with no two beads alike in a bag."""
    _check_family_and_colors(family, colors)
    if not _is_unlike(family, colors, value):
        raise BadNumber()
    digits = [value[0]]
    for stem, own in hung_bags(family):
        left = [color for color in range(colors) if color != value[stem]]
        for bead in own:
            digits.append(left.index(value[bead]))
            left.remove(value[bead])
    return number_with(_bases(family, colors), digits)


def shows_coloring(family, colors, value):
    """Whether a value is a coloring with no two beads alike in a bag."""
    _check_family_and_colors(family, colors)
    return _is_unlike(family, colors, value)


def alike_pairs(family, value):
    """The number of pairs of beads in one bag with the same color."""
    check_family(family)
    if not _is_coloring(family, MOST_COLORS, value):
        raise BadNumber()
    return sum([_count_alike([value[bead] for bead in bag]) for bag in family])


def _check_family_and_colors(family, colors):
    """Raise the errors of a family, then BadNumber for what is no number of colors."""
    check_family(family)
    check_number(colors, 1, MOST_COLORS)


def _bases(family, colors):
    """The list, for each bead in the order in which they are colored, of the number of colors left for it."""
    # Where a bag has more beads than there are colors, one of these numbers is 0, and so is their product.
    return [colors, *[colors - 1 - place for stem, own in hung_bags(family) for place in range(len(own))]]


def _is_coloring(family, colors, value):
    """Whether a value is a tuple of one of so many colors for each bead."""
    return are_integers(value, 0, colors - 1) and len(value) == bead_count(family)


def _is_unlike(family, colors, value):
    """Whether a value is a coloring with no two beads alike in a bag."""
    if not _is_coloring(family, colors, value):
        return False
    return all(_count_alike([value[bead] for bead in bag]) == 0 for bag in family)


def _count_alike(row):
    """The number of pairs of like colors in a list."""
    return sum([row[:place].count(color) for place, color in enumerate(row)])
