"""What is known though some keys were felt wrong (point 12)."""

from keysfelt.checks import check_aim, check_number, check_ring, check_seen
from keysfelt.holds import all_holds, pairs_apart, row_felt

MOST_ROW = 40
MOST_WRONG = 10


def holds_if_wrong(ring, row, wrong):
    """The ascending list of the holds for which a row can be felt, up to so many of its shapes wrong."""
    check_ring(ring)
    check_seen(row, 0, MOST_ROW)
    check_number(wrong, 0, MOST_WRONG)
    many = len(row)
    return [hold for hold in all_holds(ring) if len(places_unlike(row, row_felt(ring, hold, many))) <= wrong]


def least_if_wrong(ring, aim, wrong):
    """The least number of keys felt by which the aim is known though up to so many were felt wrong, or None."""
    check_ring(ring)
    check_aim(aim)
    check_number(wrong, 0, MOST_WRONG)
    least = 0
    for one, other in pairs_apart(ring, aim):
        many = least_for_pair(ring, one, other, 2 * wrong + 1)
        if many is None:
            return None
        least = max(least, many)
    return least


def places_unlike(one, other):
    """The ascending list of the places at which two rows of as many shapes differ."""
    return [place for place, (shape, against) in enumerate(zip(one, other)) if shape != against]


def least_for_pair(ring, one, other, many):
    """The least number of keys felt by which two holds differ at so many places, None if they are alike."""
    keys = len(ring)
    places = places_unlike(row_felt(ring, one, keys), row_felt(ring, other, keys))
    if not places:
        return None
    # Each round differs at the same places: whole rounds first, then up to the last place needed.
    rounds, rest = divmod(many - 1, len(places))
    return rounds * keys + places[rest] + 1
