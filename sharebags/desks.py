"""A family that is poured and parted move by move."""

from sharebags.checks import check_family
from sharebags.errors import NothingToUndo
from sharebags.pourings import sharing_pairs
from sharebags.steps import fewest_moves, parted_as_told, poured_as_told


class Box:
    """A family that is poured and parted; the moves can be taken back, the last one first."""

    def __init__(self, family):
        check_family(family)
        # The first family, and the one behind each move that was not taken back.
        self._families = [family]

    @property
    def family(self):
        """The family now."""
        return self._families[-1]

    @property
    def made(self):
        """How many moves can be taken back."""
        return len(self._families) - 1

    def pour(self, one, other):
        """Pour two bags that share a bead into one."""
        self._families.append(poured_as_told(self.family, one, other))

    def part(self, index, bead, side):
        """Part a bag into bead with side, and bead with the bag's other beads."""
        self._families.append(parted_as_told(self.family, index, bead, side))

    def undo(self):
        """Take back the last move that was not taken back."""
        if self.made == 0:
            raise NothingToUndo()
        self._families.pop()

    def open_pairs(self):
        """The ascending tuple of the pairs of indexes of bags that share a bead."""
        return sharing_pairs(self.family)

    def wasted(self):
        """How many more moves were made and not taken back than lead from the first family to this one."""
        return self.made - fewest_moves(self._families[0], self.family)

    def seen(self):
        """The number of the different families that were come to, the first and the last included."""
        return len(set(self._families))

    def coarsest(self):
        """The least number of bags of the families that were come to."""
        return min([len(family) for family in self._families])
