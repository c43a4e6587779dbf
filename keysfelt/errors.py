"""The errors that the functions of this package raise."""


class FeelError(ValueError):
    """The base class of all errors of this package."""


class BadRing(FeelError):
    """A value that is no ring."""


class BadHold(FeelError):
    """A value that is no hold of the ring."""


class BadNumber(FeelError):
    """A value that is no integer from the least to the greatest allowed."""


class BadAim(FeelError):
    """A value that is neither "key" nor "hold"."""


class BadKey(FeelError):
    """A value that is no key of the ring."""


class BadCounts(FeelError):
    """A value that does not tell how many keys there are of each shape."""


class TooMany(FeelError):
    """More keys than all rings are listed for."""


class BadSeen(FeelError):
    """A value that cannot be what was felt."""


class BadPieces(FeelError):
    """A value that is no tuple of pieces."""


class BadShape(FeelError):
    """A value that cannot be the shape that was felt."""


class BadSide(FeelError):
    """A value that is neither "right" nor "left"."""


class Full(FeelError):
    """All keys of the ring were felt."""


class BadRings(FeelError):
    """A value that is no tuple of rings: index is that of the first thing that is no ring, or None."""

    def __init__(self, index):
        self.index = index


class InvalidText(FeelError):
    """A text that writes no ring: place is that of the first sign that cannot stand there."""

    def __init__(self, place):
        self.place = place
