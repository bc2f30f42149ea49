"""Families as texts, and texts as families."""

from sharebags.checks import MOST_BEADS, check_family, makes_family
from sharebags.errors import BadFamily, InvalidText, NotText
from sharebags.pourings import bead_count

FIGURES = "0123456789"


def write(family):
    """The text of a family: a space between two bags, a point between two beads of a bag."""
    check_family(family)
    return " ".join([".".join([str(bead) for bead in bag]) for bag in family])


def read(text):
    """The family of such a text."""
    if not isinstance(text, str):
        raise NotText()
    bags = []
    place = 0
    while place <= len(text):
        bag, end = _bag_at(text, place)
        bags.append(bag)
        # Behind the end of a bag stands the space that the next one comes behind, or nothing.
        place = end + 1
    if not makes_family(tuple(bags)):
        raise BadFamily()
    return tuple(bags)


def draw(family):
    """The tuple of strings, one for each bag, with o at the places of its beads and . at the others."""
    check_family(family)
    size = bead_count(family)
    return tuple(_drawn(bag, size) for bag in family)


def _drawn(bag, size):
    """The string of so many signs with o at the places of the beads of a bag and . at the others."""
    return "".join(["o" if bead in bag else "." for bead in range(size)])


def _bag_at(text, start):
    """The pair of the bag that begins at a place in a text, counted from 0, and the place behind it."""
    first, end = _bead_at(text, start, -1)
    bag = [first]
    # A bag has two beads at least: ahead of the second one nothing but a point may stand.
    while len(bag) == 1 or (end < len(text) and text[end] != " "):
        if end == len(text) or text[end] != ".":
            raise InvalidText(end + 1)
        bead, end = _bead_at(text, end + 1, bag[-1])
        bag.append(bead)
    return (tuple(bag), end)


def _bead_at(text, start, before):
    """The pair of the bead whose figures begin at a place in a text and the place behind them.

    The bead stands behind another one in its bag, -1 for none.
    """
    end = start
    while end < len(text) and text[end] in FIGURES:
        end += 1
    if not _tells_bead(text[start:end], before):
        raise InvalidText(start + 1)
    return (int(text[start:end]), end)


def _tells_bead(figures, before):
    """Whether figures, or none, tell a bead above the one before."""
    if figures == "" or (figures[0] == "0" and len(figures) > 1):
        return False
    # No bead has more figures than two; very many are more than Python makes an integer of.
    return len(figures) <= 2 and before < int(figures) < MOST_BEADS
