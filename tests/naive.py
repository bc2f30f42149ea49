"""The document's words taken literally, slow and apart from the package, to check it by."""

from functools import lru_cache
from itertools import combinations
from math import comb, factorial


def all_bags(size):
    """The ascending list of all bags of beads below size."""
    beads = range(size)
    return sorted(bag for many in range(2, size + 1) for bag in combinations(beads, many))


def count_ways(bags, bead, goal, beads_met, bags_met):
    """How many ways lead from a bead to another one without anything met."""
    if bead == goal:
        return 1
    return sum(
        count_ways(bags, other, goal, beads_met | {other}, bags_met | {k})
        for k, bag in enumerate(bags)
        if bead in bag and k not in bags_met
        for other in bag
        if other not in beads_met
    )


def is_family(bags):
    """Whether bags hold all beads and any two beads are joined by just one way."""
    held = {bead for bag in bags for bead in bag}
    if held != set(range(max(held) + 1)):
        return False
    return all(count_ways(bags, one, other, {one}, set()) == 1 for one, other in combinations(sorted(held), 2))


def bar(bags):
    """What bars bags from being a family."""
    held = {bead for bag in bags for bead in bag}
    for bead in range(max(held)):
        if bead not in held:
            return ("bead", bead)
    for j in range(len(bags)):
        for i in range(j):
            if len(set(bags[i]) & set(bags[j])) >= 2:
                return ("two", i, j)
    joined = {0}
    for _ in bags:
        joined |= {k for k in range(len(bags)) for i in joined if set(bags[i]) & set(bags[k])}
    if len(joined) < len(bags):
        return ("apart", tuple(sorted(joined)))
    left = set(range(len(bags)))
    while True:
        alone = [k for k in left if len([b for b in bags[k] if any(b in bags[i] for i in left if i != k)]) < 2]
        if not alone:
            break
        left.remove(alone[0])
    return ("ring", tuple(sorted(left))) if left else None


@lru_cache(maxsize=None)
def poured(family):
    """The ascending tuple of the families behind one pouring."""
    found = set()
    for one, other in combinations(family, 2):
        if set(one) & set(other):
            rest = set(family) - {one, other}
            found.add(tuple(sorted(rest | {tuple(sorted(set(one) | set(other)))})))
    return tuple(sorted(found))


@lru_cache(maxsize=None)
def coarser(family):
    """The set of the families that come by any pourings, the family included."""
    found = {family}
    for coarse in poured(family):
        found |= coarser(coarse)
    return frozenset(found)


@lru_cache(maxsize=None)
def families(size):
    """The ascending tuple of all families with so many beads: each comes by pourings from one of pairs alone."""
    pairs = list(combinations(range(size), 2))
    bottom = [some for some in combinations(pairs, size - 1) if max(map(max, some)) == size - 1 and is_family(some)]
    return tuple(sorted({family for some in bottom for family in coarser(some)}))


@lru_cache(maxsize=None)
def parted(family):
    """The ascending tuple of the families from which this one comes by one pouring."""
    return partings(max(map(max, family)) + 1)[family]


@lru_cache(maxsize=None)
def partings(size):
    """For each family with so many beads the tuple of those from which it comes by one pouring."""
    found = {family: [] for family in families(size)}
    for family in families(size):
        for coarse in poured(family):
            found[coarse].append(family)
    return {family: tuple(rows) for family, rows in found.items()}


def least_coarser(one, other):
    """The finest of the families that come by pourings from both."""
    both = coarser(one) & coarser(other)
    return next(family for family in both if both <= coarser(family))


def greatest_finer(one, other, size):
    """The coarsest of the families from which both come by pourings, None if there is none."""
    both = [family for family in families(size) if {one, other} <= coarser(family)]
    for family in both:
        if all(family in coarser(finer) for finer in both):
            return family
    assert not both
    return None


@lru_cache(maxsize=None)
def distances(family):
    """For each family with as many beads the fewest moves to it."""
    found = {family: 0}
    fresh = [family]
    for near in fresh:
        for far in poured(near) + parted(near):
            if far not in found:
                found[far] = found[near] + 1
                fresh.append(far)
    return found


def is_shortest_way(one, other, steps):
    """Whether a list of families leads by single moves from one to other, with the fewest moves."""
    if not steps or steps[0] != one or steps[-1] != other:
        return False
    if len(steps) != distances(one)[other] + 1:
        return False
    return all(steps[k + 1] in poured(steps[k]) + parted(steps[k]) for k in range(len(steps) - 1))


def bead_distances(family, start):
    """For each bead the number of bags on the way from one."""
    found = {start: 0}
    fresh = [start]
    for bead in fresh:
        for bag in family:
            if bead in bag:
                for other in bag:
                    if other not in found:
                        found[other] = found[bead] + 1
                        fresh.append(other)
    return found


def stems(family):
    """For each bag its bead nearest to bead 0."""
    far = bead_distances(family, 0)
    return {bag: min(bag, key=far.get) for bag in family}


def code(family):
    """The code by the words of the document."""
    stem = stems(family)
    own = {bag: tuple(bead for bead in bag if bead != stem[bag]) for bag in family}
    left, written = list(family), []
    while len(left) > 1:
        free = [bag for bag in left if not any(stem[other] in own[bag] for other in left)]
        taken = min(free, key=lambda bag: min(own[bag]))
        left.remove(taken)
        written.append(stem[taken])
    return (tuple(sorted(own.values())), tuple(written))


def code_place(family):
    """What the families with as many beads and bags are ordered by."""
    parts, written = code(family)
    ordered = sorted(parts, key=min)
    word = [k for bead in range(1, max(map(max, family)) + 1) for k in range(len(ordered)) if bead in ordered[k]]
    return (tuple(word), written)


def finer(family):
    """The ascending list of the families from which a family comes by any pourings."""
    return [fine for fine in families(max(map(max, family)) + 1) if family in coarser(fine)]


def all_ways(family, one, other):
    """All ways between two beads, by the words of the document."""
    found, open_ways = [], [(one,)]
    for steps in open_ways:
        if steps[-1] == other:
            found.append(steps)
        for index, bag in enumerate(family):
            if steps[-1] in bag and index not in steps[1::2]:
                open_ways += [steps + (index, bead) for bead in bag if bead not in steps[::2]]
    return found


def groups(bags, beads):
    """The ascending list of the ascending tuples of beads that hang together by bags."""
    found = []
    for bead in beads:
        group = {bead}
        for _ in bags:
            group |= {other for bag in bags if group & set(bag) for other in bag}
        found.append(tuple(sorted(group)))
    return sorted(set(found))


@lru_cache(maxsize=None)
def bell(things):
    """The number of partitions, by the part of the last thing."""
    if things == 0:
        return 1
    return sum(comb(things - 1, k) * bell(k) for k in range(things))


def parted_in(things, parts):
    """The number of partitions into so many parts, by the mappings onto them."""
    onto = sum((-1) ** k * comb(parts, k) * (parts - k) ** things for k in range(parts + 1))
    return onto // factorial(parts)
