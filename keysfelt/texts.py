"""Rings written as strings (point 11)."""

from keysfelt.alike import least_ring
from keysfelt.checks import MOST_KEYS, check_ring
from keysfelt.errors import InvalidText

SIGNS = "abcdefghi"


def write_ring(ring):
    """The string of the shapes of a ring, in order."""
    check_ring(ring)
    return "".join([SIGNS[shape] for shape in ring])


def write_least(ring):
    """The string of the least ring that is alike to a ring."""
    return write_ring(least_ring(ring))


def read_ring(text):
    """The ring of a string; InvalidText with the place of the first sign that cannot stand there."""
    if text == "":
        raise InvalidText(0)
    for place, sign in enumerate(text):
        if place >= MOST_KEYS or sign not in SIGNS:
            raise InvalidText(place)
    return tuple([SIGNS.index(sign) for sign in text])
