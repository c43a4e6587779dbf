"""Looking at arguments: each check raises the error of the document, or returns nothing."""

from keysfelt.errors import (
    BadAim, BadCounts, BadHold, BadKey, BadNumber, BadPieces, BadRing, BadRings, BadSeen, BadSide,
)

MOST_KEYS = 9
MOST_SHAPE = 8
MOST_COUNT = 40
MOST_PIECES = 8
MOST_PIECE = 12
MOST_RINGS = 6
AIMS = ("key", "hold")
SIDES = ("right", "left")


def is_integer(value, low, high):
    """Whether a value is an integer from low to high."""
    # True and False are integers for Python, but not for the document.
    if isinstance(value, bool) or not isinstance(value, int):
        return False
    return low <= value <= high


def is_row(value, fewest, most, greatest):
    """Whether a value is a tuple of fewest to most integers, each from 0 to the greatest."""
    if not isinstance(value, tuple) or not fewest <= len(value) <= most:
        return False
    return all([is_integer(number, 0, greatest) for number in value])


def is_ring(value):
    """Whether a value is a ring."""
    return is_row(value, 1, MOST_KEYS, MOST_SHAPE)


def is_hold(ring, value):
    """Whether a value is a hold of the ring."""
    if not isinstance(value, tuple) or len(value) != 2:
        return False
    key, way = value
    return is_integer(key, 0, len(ring) - 1) and is_integer(way, -1, 1) and way != 0


def is_side(value):
    """Whether any value is a side."""
    return isinstance(value, str) and value in SIDES


def check_ring(value):
    """Raise BadRing for a value that is no ring."""
    if not is_ring(value):
        raise BadRing()


def check_hold(ring, value):
    """Raise BadHold for a value that is no hold of the ring."""
    if not is_hold(ring, value):
        raise BadHold()


def check_number(value, low, high):
    """Raise BadNumber for a value that is no integer from low to high."""
    if not is_integer(value, low, high):
        raise BadNumber()


def check_aim(value):
    """Raise BadAim for a value that is no aim."""
    if not isinstance(value, str) or value not in AIMS:
        raise BadAim()


def check_key(ring, value):
    """Raise BadKey for a value that is no key of the ring."""
    if not is_integer(value, 0, len(ring) - 1):
        raise BadKey()


def check_side(value):
    """Raise BadSide for a value that is no side."""
    if not is_side(value):
        raise BadSide()


def check_counts(value):
    """Raise BadCounts for a value that does not tell how many keys there are of each shape."""
    if not is_row(value, 1, MOST_SHAPE + 1, MOST_COUNT) or not 1 <= sum(value) <= MOST_COUNT:
        raise BadCounts()


def check_seen(value, fewest, most):
    """Raise BadSeen for a value that is no tuple of fewest to most shapes."""
    if not is_row(value, fewest, most, MOST_SHAPE):
        raise BadSeen()


def check_pieces(value, shapes):
    """Raise BadPieces for a value that is no tuple of pieces with shapes below shapes."""
    if not isinstance(value, tuple) or len(value) > MOST_PIECES:
        raise BadPieces()
    if not all([is_row(piece, 0, MOST_PIECE, shapes - 1) for piece in value]):
        raise BadPieces()


def check_rings(value):
    """Raise BadRings, with the index of the first thing that is no ring, for a value that is no rings."""
    if not isinstance(value, tuple) or not 1 <= len(value) <= MOST_RINGS:
        raise BadRings(None)
    for index, ring in enumerate(value):
        if not is_ring(ring):
            raise BadRings(index)
