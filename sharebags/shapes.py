"""Hearts and shapes of families, and what renaming the beads makes of a family."""

from math import factorial

from sharebags.checks import are_integers, check_family
from sharebags.errors import BadNames
from sharebags.pourings import bead_count, with_names
from sharebags.tallies import product_of
from sharebags.trees import hanging_texts, heart_of, nodes_from_heart, shape_of, text_of


def heart(family):
    """What is left of the tree of beads and bags in the end: ("bead", bead) or ("bag", index)."""
    check_family(family)
    node = heart_of(family)
    size = bead_count(family)
    return ("bead", node) if node < size else ("bag", node - size)


def shape(family):
    """The text of the heart."""
    check_family(family)
    return shape_of(family)


def same_shape(one, other):
    """Whether one becomes other by renaming beads."""
    check_family(one)
    check_family(other)
    return shape_of(one) == shape_of(other)


def renamed(family, names):
    """The family with the beads 0, 1, .. replaced by a tuple of all beads in some order."""
    check_family(family)
    size = bead_count(family)
    if not are_integers(names, 0, size - 1) or sorted(names) != list(range(size)):
        raise BadNames()
    return with_names(family, names)


def renamings(family):
    """The number of tuples of names with which a family stays as it is."""
    check_family(family)
    return _renamings(family)


def copies(family):
    """The number of the different families that come by renaming."""
    check_family(family)
    return factorial(bead_count(family)) // _renamings(family)


def kinds(family):
    """The ascending tuple of the tuples of beads that come to one another by renamings with which a family stays."""
    check_family(family)
    size = bead_count(family)
    hanging = hanging_texts(family)
    # Nodes come to one another if what hangs on them is alike and so are the nodes from which one comes to them.
    kind_of = {-1: 0}
    known = {}
    beads = {}
    for node, before in nodes_from_heart(family):
        key = (kind_of[before], text_of(node, size, hanging[node]))
        kind_of[node] = known.setdefault(key, len(known) + 1)
        if node < size:
            beads.setdefault(kind_of[node], []).append(node)
    return tuple(sorted([tuple(sorted(group)) for group in beads.values()]))


def _renamings(family):
    """The number of renamings with which a family stays as it is, for one that is known to be one."""
    # The heart stays, and at each node those that hang on it may be exchanged where their texts are alike.
    return product_of([_orders(texts) for texts in hanging_texts(family).values()])


def _orders(texts):
    """The number of ways to exchange like texts."""
    return product_of([factorial(texts.count(text)) for text in sorted(set(texts))])
