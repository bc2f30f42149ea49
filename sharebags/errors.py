"""The errors that the functions of the package raise."""


class BagError(ValueError):
    """The base class of all errors of the package."""


class BadBags(BagError):
    """A value is no ascending tuple of different bags."""


class BadFamily(BagError):
    """Bags are no family."""


class BadBead(BagError):
    """A value is no bead that may stand there."""


class BadBeads(BagError):
    """A value is no ascending tuple of beads that may stand there."""


class BadPour(BagError):
    """Values are no indexes of two bags that share a bead."""


class BadPart(BagError):
    """Values do not tell how to part a bag."""


class BadNumber(BagError):
    """A value is no integer within its limits, or no value that has a number."""


class BadSizes(BagError):
    """A value is no tuple of numbers of beads or bags that may stand there."""


class BadCode(BagError):
    """A value is the code of no family."""


class BadPrices(BagError):
    """A value is no tuple of prices or weights."""


class BadNames(BagError):
    """A value is no tuple of all beads in some order."""


class OtherBeads(BagError):
    """Families have different numbers of beads."""


class NotCoarser(BagError):
    """A family is not coarser than another one."""


class TooGreat(BagError):
    """A family has more than most of what is limited."""

    def __init__(self, most):
        self.most = most


class TooMany(BagError):
    """A list would have more than most members."""

    def __init__(self, most):
        self.most = most


class NotText(BagError):
    """A value is no string."""


class InvalidText(BagError):
    """A text tells no bags; place is that of the first sign that cannot stand there, from 1."""

    def __init__(self, place):
        self.place = place


class NothingToUndo(BagError):
    """No move is left that can be taken back."""
