"""The fewest caps on keys by which an aim is known (point 6)."""

from itertools import combinations

from keysfelt.checks import MOST_SHAPE, check_aim, check_number, check_ring
from keysfelt.holds import least_pair

MOST_WITHIN = 20


def fewest_caps(ring, aim):
    """The ascending list of the smallest tuples of keys with caps on which the aim can be known."""
    check_ring(ring)
    check_aim(aim)
    # What one round does not tell is never told.
    return smallest_caps(ring, aim, len(ring))


def caps_within(ring, aim, many):
    """The ascending list of the smallest tuples of keys with caps on which so many keys felt tell the aim."""
    check_ring(ring)
    check_aim(aim)
    check_number(many, 0, MOST_WITHIN)
    return smallest_caps(ring, aim, many)


def smallest_caps(ring, aim, many):
    """The smallest tuples of keys with caps, ascending, for a ring, an aim and a number that were looked at."""
    for size in range(len(ring) + 1):
        found = [
            caps for caps in combinations(range(len(ring)), size)
            if least_pair(with_caps(ring, caps), aim, many) is None
        ]
        if found:
            return found
    return []


def with_caps(ring, caps):
    """The shapes of a ring with caps on these keys: a shape with a cap is a further shape."""
    return tuple([shape + MOST_SHAPE + 1 if key in caps else shape for key, shape in enumerate(ring)])
