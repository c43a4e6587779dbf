"""Looking at arguments: each check raises the error of the document, or returns nothing."""

from keysfelt.errors import BadAim, BadHold, BadKey, BadNumber, BadRing

MOST_KEYS = 9
MOST_SHAPE = 8
AIMS = ("key", "hold")


def is_integer(value, low, high):
    """Whether a value is an integer from low to high."""
    # True and False are integers for Python, but not for the document.
    if isinstance(value, bool) or not isinstance(value, int):
        return False
    return low <= value <= high


def is_ring(value):
    """Whether a value is a ring."""
    if not isinstance(value, tuple) or not 1 <= len(value) <= MOST_KEYS:
        return False
    return all([is_integer(shape, 0, MOST_SHAPE) for shape in value])


def is_hold(ring, value):
    """Whether a value is a hold of the ring."""
    if not isinstance(value, tuple) or len(value) != 2:
        return False
    key, way = value
    return is_integer(key, 0, len(ring) - 1) and is_integer(way, -1, 1) and way != 0


def check_ring(value):
    """Raise BadRing for a value that is no ring."""
    if not is_ring(value):
        raise BadRing()


def check_hold(ring, value):
    """Raise BadHold for a value that is no hold of the ring."""
    if not is_hold(ring, value):
        raise BadHold()


def check_number(value, low, high):
    """Raise BadNumber for a value that is no integer from low to high."""
    if not is_integer(value, low, high):
        raise BadNumber()


def check_aim(value):
    """Raise BadAim for a value that is no aim."""
    if not isinstance(value, str) or value not in AIMS:
        raise BadAim()


def check_key(ring, value):
    """Raise BadKey for a value that is no key of the ring."""
    if not is_integer(value, 0, len(ring) - 1):
        raise BadKey()
