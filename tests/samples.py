"""Families of many beads, and random ones."""

PATH = tuple((k, k + 1) for k in range(59))
STAR = tuple((0, k) for k in range(1, 60))
LAST_STAR = tuple((k, 59) for k in range(59))
WHOLE = (tuple(range(60)),)
HALVES = (tuple(range(30)), tuple(range(29, 60)))


def size_of(bags):
    """The number of beads up to the greatest one."""
    return max(map(max, bags)) + 1


def random_family(source, size):
    """A family into which bead after bead was put, with its beads renamed."""
    bags = [[0, 1]]
    for bead in range(2, size):
        if source.random() < 0.5:
            source.choice(bags).append(bead)
        else:
            bags.append([source.randrange(bead), bead])
    names = list(range(size))
    source.shuffle(names)
    return tuple(sorted(tuple(sorted(names[bead] for bead in bag)) for bag in bags))
