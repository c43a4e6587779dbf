"""Rings of told numbers of keys that are told soonest (point 15)."""

from keysfelt.alike import MOST_KEYS_WITH, MOST_SHAPES_WITH, all_rings, least_below
from keysfelt.checks import check_aim, check_number
from keysfelt.holds import least_felt, least_pair

MOST_MANY = 20


def best_rings(counts, aim):
    """The tuple (least, list) of the least least_felt and the least rings that have it, None if none is told."""
    # The counts are looked at by all_rings, and so before the aim.
    rings = all_rings(counts)
    check_aim(aim)
    found = [(least_felt(ring, aim), ring) for ring in rings]
    least = min([many for many, _ in found if many is not None], default=None)
    if least is None:
        return None
    return (least, [ring for many, ring in found if many == least])


def told_rings(keys, shapes, many, aim):
    """The ascending list of the least rings of so many keys and shapes that at most so many keys felt tell."""
    check_number(keys, 1, MOST_KEYS_WITH)
    check_number(shapes, 1, MOST_SHAPES_WITH)
    check_number(many, 0, MOST_MANY)
    check_aim(aim)
    return [ring for ring in least_below(keys, shapes) if least_pair(ring, aim, many) is None]
