"""Families of pairs that are finer than a family: how many there are, which ones, and what they cost."""

from sharebags.checks import are_integers, check_family, check_listed, makes_family
from sharebags.codes import family_at
from sharebags.errors import BadPrices
from sharebags.pourings import bead_count, lies_below, with_names
from sharebags.tallies import power, product_of

GREATEST_PRICE = 1000000


def count_pairs(family):
    """The number of families of pairs finer than a family."""
    check_family(family)
    return _count_pairs(family)


def pair_families(family):
    """The ascending list of the families of pairs finer than a family."""
    check_family(family)
    check_listed(_count_pairs(family))
    found = [()]
    for bag in family:
        trees = _pairs_of_bag(bag)
        found = [(*pairs, *tree) for pairs in found for tree in trees]
    return sorted([tuple(sorted(pairs)) for pairs in found])


def cheapest(family, prices):
    """The pair (least sum of prices, such a family) of the families of pairs finer than a family."""
    _check_family_and_prices(family, prices)
    pairs = _least_pairs(family, prices)
    return (_sum_of_prices(pairs, prices), pairs)


def dearest(family, prices):
    """The greatest sum of prices of the families of pairs finer than a family."""
    _check_family_and_prices(family, prices)
    pairs = _least_pairs(family, [[-price for price in row] for row in prices])
    return _sum_of_prices(pairs, prices)


def pair_price_sum(family, prices):
    """The sum of the prices over all families of pairs finer than a family."""
    _check_family_and_prices(family, prices)
    many = _count_pairs(family)
    # Each pair of a bag of k beads is in as many of its trees as any other: in 2 of k.
    return sum([many * 2 * _sum_within(bag, prices) // len(bag) for bag in family])


def shows_cheapest(family, prices, value):
    """Whether a value is a family of pairs finer than a family with the least sum of prices."""
    _check_family_and_prices(family, prices)
    if not _are_finer_pairs(family, value):
        return False
    return _sum_of_prices(value, prices) == _sum_of_prices(_least_pairs(family, prices), prices)


def _check_family_and_prices(family, prices):
    """Raise the errors of a family, then BadPrices for what tells no prices of its beads."""
    check_family(family)
    if not _are_prices(prices, bead_count(family)):
        raise BadPrices()


def _are_prices(value, size):
    """Whether a value is a tuple, for each bead, of the tuple of its prices, alike both ways and 0 to itself."""
    if not isinstance(value, tuple) or len(value) != size:
        return False
    if not all(are_integers(row, 0, GREATEST_PRICE) and len(row) == size for row in value):
        return False
    if any(value[bead][bead] != 0 for bead in range(size)):
        return False
    return all(value[low][high] == value[high][low] for high in range(size) for low in range(high))


def _are_finer_pairs(family, value):
    """Whether a value is a family of pairs finer than a family."""
    if not makes_family(value) or bead_count(value) != bead_count(family):
        return False
    return all(len(bag) == 2 for bag in value) and lies_below(value, family)


def _count_pairs(family):
    """The number of families of pairs finer than a family that is known to be one."""
    return product_of([_count_trees(len(bag)) for bag in family])


def _count_trees(size):
    """The number of families of pairs of so many beads."""
    return power(size, size - 2)


def _pairs_of_bag(bag):
    """The list of the families of pairs of the beads of a bag."""
    size = len(bag)
    return [with_names(family_at(size, size - 1, index), bag) for index in range(_count_trees(size))]


def _least_pairs(family, costs):
    """A family of pairs finer than a family with the least sum of costs."""
    return tuple(sorted([pair for bag in family for pair in _least_tree(bag, costs)]))


def _least_tree(bag, costs):
    """The list of pairs that join the beads of a bag with the least sum of costs."""
    joined = [bag[0]]
    left = list(bag[1:])
    pairs = []
    while left:
        _, inner, outer = min([(costs[k][other], k, other) for k in joined for other in left])
        joined.append(outer)
        left.remove(outer)
        pairs.append((min(inner, outer), max(inner, outer)))
    return pairs


def _sum_of_prices(pairs, prices):
    """The sum of the prices of pairs."""
    return sum([prices[low][high] for low, high in pairs])


def _sum_within(bag, prices):
    """The sum of the prices of all pairs of beads of a bag."""
    return sum([prices[low][high] for low in bag for high in bag if low < high])
