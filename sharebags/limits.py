"""Shortest ways between families with no greater bag on them than a limit allows."""

from sharebags.checks import check_few_beads, check_number, check_same_beads
from sharebags.errors import TooGreat
from sharebags.pourings import greatest_size
from sharebags.steps import is_move, leads_by_moves, next_sphere

MOST_LIMITED_BEADS = 5


def distance_within(one, other, most):
    """The fewest moves from one to other with no bag of more than most beads on the way, None if there is no way."""
    _check_both(one, other, most)
    return _fewest_within(one, other, most)


def way_within(one, other, most):
    """The list of the families on a shortest such way from one to other, both included, None if there is no way."""
    _check_both(one, other, most)
    spheres = _spheres_until(one, other, most)
    if not spheres[-1]:
        return None
    back = [other]
    for nearer in reversed(spheres[:-1]):
        back.append([family for family in nearer if is_move(family, back[-1])][0])
    return back[::-1]


def shows_way_within(one, other, most, value):
    """Whether a value is the list of the families on a shortest such way from one to other."""
    _check_both(one, other, most)
    if not leads_by_moves(one, other, value) or any(greatest_size(family) > most for family in value):
        return False
    return len(value) - 1 == _fewest_within(one, other, most)


def within_sizes(family, most):
    """The tuple of the numbers of families 0, 1, 2, .. such moves away, as far as any come."""
    check_few_beads(family, MOST_LIMITED_BEADS)
    check_number(most, 2, MOST_LIMITED_BEADS)
    _check_within(family, most)
    spheres = [[family]]
    while spheres[-1]:
        spheres.append(next_sphere(spheres, most))
    return tuple(len(found) for found in spheres[:-1])


def _check_both(one, other, most):
    """Raise the errors of two families and of a limit, then OtherBeads, then TooGreat(most) for a greater bag."""
    check_few_beads(one, MOST_LIMITED_BEADS)
    check_few_beads(other, MOST_LIMITED_BEADS)
    check_number(most, 2, MOST_LIMITED_BEADS)
    check_same_beads([one, other])
    _check_within(one, most)
    _check_within(other, most)


def _check_within(family, most):
    """Raise TooGreat(most) for a family with a bag of more than most beads."""
    if greatest_size(family) > most:
        raise TooGreat(most)


def _spheres_until(one, other, most):
    """The list of the spheres around one up to that which holds other, or to an empty one if none does."""
    spheres = [[one]]
    while spheres[-1] and other not in spheres[-1]:
        spheres.append(next_sphere(spheres, most))
    return spheres


def _fewest_within(one, other, most):
    """The fewest moves within the limit, None if there is no way."""
    spheres = _spheres_until(one, other, most)
    return len(spheres) - 1 if spheres[-1] else None
