"""The trees of beads and bags: their hearts, and the texts that tell what hangs on their nodes.

The nodes are integers: the beads by their names, and behind them the bags in the order of their indexes.
"""

from sharebags.pourings import bead_count


def heart_of(family):
    """The node that is left if those with at most one neighbor are taken away at one time, again and again."""
    links = _links_of(family)
    left = list(range(len(links)))
    while len(left) > 1:
        stay = {node: True for node in left}
        left = [node for node in left if len([other for other in links[node] if other in stay]) > 1]
    return left[0]


def nodes_from_heart(family):
    """The list of the pairs (node, the one from which one comes), each behind that one; -1 for the heart."""
    links = _links_of(family)
    order = [(heart_of(family), -1)]
    place = 0
    while place < len(order):
        node, before = order[place]
        order.extend([(other, node) for other in links[node] if other != before])
        place += 1
    return order


def hanging_texts(family):
    """The dict, for each node, of the ascending list of the texts of the nodes that one comes to from it."""
    size = bead_count(family)
    order = nodes_from_heart(family)
    hanging = {node: [] for node, before in order}
    for node, before in reversed(order):
        # All nodes that hang on this one come behind it in the order: their texts are told.
        hanging[node] = sorted(hanging[node])
        if before >= 0:
            hanging[before].append(text_of(node, size, hanging[node]))
    return hanging


def text_of(node, size, texts):
    """The text of a node of a family with so many beads, by the ascending list of those that hang on it."""
    inner = "".join(texts)
    return f"({inner})" if node < size else f"[{inner}]"


def shape_of(family):
    """The text of the heart of a family."""
    heart = heart_of(family)
    return text_of(heart, bead_count(family), hanging_texts(family)[heart])


def _links_of(family):
    """The list, for each node, of the list of its neighbors."""
    size = bead_count(family)
    links = [[] for _ in range(size)]
    for index, bag in enumerate(family):
        for bead in bag:
            links[bead].append(size + index)
    return [*links, *[list(bag) for bag in family]]
