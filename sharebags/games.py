"""Two players who pour in turn, and a pourer who plays against a parter."""

from sharebags.checks import MOST_BEADS, check_bead, check_few_bags, check_few_beads, check_number
from sharebags.masks import lies_within, mask_of, masks_of
from sharebags.pourings import poured_together, sharing_pairs
from sharebags.steps import families_parted, families_poured

MOST_BAGS = 8
MOST_PARTED_BEADS = 6
MOST_TURNS = 8


def game_value(family, most):
    """The least number from 0 on that is the value of no family behind one allowed pouring."""
    _check_family_and_most(family, most)
    return _values(family, most)[family]


def first_wins(family, most):
    """Whether the first player can win."""
    _check_family_and_most(family, most)
    return _values(family, most)[family] != 0


def winning_pours(family, most):
    """The ascending list of the pairs of indexes of bags that the first player pours to win."""
    _check_family_and_most(family, most)
    values = _values(family, most)
    # The other player loses at a family with the value 0.
    return [pair for pair in _allowed_pairs(family, most) if values[poured_together(family, pair)] == 0]


def both_win(one, other, most):
    """Whether the first player can win if each pours in either of two families."""
    check_few_bags(one, MOST_BAGS)
    _check_family_and_most(other, most)
    # Two games side by side are lost for who is to pour just if their values are alike.
    return _values(one, most)[one] != _values(other, most)[other]


def play_lengths(family, most):
    """The pair of the least and the greatest number of pourings of a play."""
    _check_family_and_most(family, most)
    behind = _families_behind(family, most)
    least = {}
    greatest = {}
    for coarse in sorted(behind, key=len):
        least[coarse] = min([least[coarser] + 1 for coarser in behind[coarse]], default=0)
        greatest[coarse] = max([greatest[coarser] + 1 for coarser in behind[coarse]], default=0)
    return (least[family], greatest[family])


def stops(family, most):
    """The ascending list of the families at which plays stop."""
    _check_family_and_most(family, most)
    behind = _families_behind(family, most)
    return sorted([coarse for coarse in behind if not behind[coarse]])


def pourer_wins(family, one, other, turns):
    """Whether a pourer, who has the first turn, can bring two beads into one bag against a parter."""
    check_few_beads(family, MOST_PARTED_BEADS)
    check_bead(family, one)
    check_bead(family, other)
    check_number(turns, 0, MOST_TURNS)
    return _pourer_brings(family, mask_of((one,)) | mask_of((other,)), turns, {})


def _check_family_and_most(family, most):
    """Raise the errors of a family, then BadNumber for what is no greatest number of beads of a bag."""
    check_few_bags(family, MOST_BAGS)
    check_number(most, 2, MOST_BEADS)


def _allowed_pairs(family, most):
    """The list of the ascending pairs of indexes of bags that come to at most so many beads."""
    # The bead that they share is one bead of the bag that they are poured into.
    return [(i, j) for i, j in sharing_pairs(family) if len(family[i]) + len(family[j]) - 1 <= most]


def _families_behind(family, most):
    """The dict, for each family that plays come to, of the list of the families behind one allowed pouring."""
    behind = {}
    fresh = [family]
    while fresh:
        coarse = fresh.pop()
        if coarse not in behind:
            behind[coarse] = [poured_together(coarse, pair) for pair in _allowed_pairs(coarse, most)]
            fresh.extend(behind[coarse])
    return behind


def _values(family, most):
    """The dict of the values of the families that plays come to."""
    behind = _families_behind(family, most)
    values = {}
    # Families behind a pouring have fewer bags: so their values are known ahead of it.
    for coarse in sorted(behind, key=len):
        values[coarse] = _least_without([values[coarser] for coarser in behind[coarse]])
    return values


def _least_without(numbers):
    """The least number from 0 on that is none of some numbers."""
    least = 0
    while least in numbers:
        least += 1
    return least


def _pourer_brings(family, both, turns, known):
    """Whether the pourer, who has the next of so many turns, can bring both beads of a mask into one bag.

    The dict keeps what was found for the families and turns that were asked before.
    """
    if lies_within(both, masks_of(family)):
        return True
    if turns == 0:
        return False
    if (family, turns) not in known:
        poured = families_poured(family)
        known[(family, turns)] = any(_parter_lets(coarse, both, turns - 1, known) for coarse in poured)
    return known[(family, turns)]


def _parter_lets(family, both, turns, known):
    """Whether both beads come into one bag whatever the parter does, who has the next of so many turns."""
    if lies_within(both, masks_of(family)):
        return True
    if turns == 0:
        return False
    # Behind a pouring some bag has three beads or more: so the parter can part one.
    return all(_pourer_brings(fine, both, turns - 1, known) for fine in families_parted(family))
