"""Rings and holds: what a hand feels to its right, and which holds feel alike (points 2 and 3)."""

from keysfelt.checks import check_aim, check_hold, check_number, check_ring

MOST_FELT = 40


def felt(ring, hold, many):
    """The tuple of the shapes of so many keys, from that at the hand on to its right."""
    check_ring(ring)
    check_hold(ring, hold)
    check_number(many, 0, MOST_FELT)
    return row_felt(ring, hold, many)


def holds_like(ring, hold):
    """The ascending list of all holds that are alike to a hold, this one among them."""
    check_ring(ring)
    check_hold(ring, hold)
    # Behind one round all is felt again, so that one round tells whether two holds are alike.
    row = row_felt(ring, hold, len(ring))
    return [other for other in all_holds(ring) if row_felt(ring, other, len(ring)) == row]


def least_felt(ring, aim):
    """The least number of keys felt to the right by which the aim is known for all holds, or None."""
    check_ring(ring)
    check_aim(aim)
    for many in range(len(ring) + 1):
        if least_pair(ring, aim, many) is None:
            return many
    return None


def alike_pair(ring, aim):
    """The least tuple of two holds that are alike for ever and differ in the aim, or None."""
    check_ring(ring)
    check_aim(aim)
    return least_pair(ring, aim, len(ring))


def all_holds(ring):
    """The ascending list of all holds of a ring."""
    return [(key, way) for key in range(len(ring)) for way in (-1, 1)]


def shape_at(ring, hold, offset):
    """The shape of the key that is so many keys to the right of the hand, to its left below 0."""
    key, way = hold
    return ring[(key + way * offset) % len(ring)]


def row_felt(ring, hold, many):
    """What is felt of so many keys to the right, for a ring and a hold that were looked at."""
    return tuple([shape_at(ring, hold, offset) for offset in range(many)])


def are_apart(one, other, aim):
    """Whether two holds must not be taken for each other where the aim is known."""
    if aim == "key":
        return one[0] != other[0]
    return one != other


def pairs_apart(ring, aim):
    """The ascending list of the pairs of holds, the first one less, that differ in the aim."""
    holds = all_holds(ring)
    pairs = [(one, other) for at, one in enumerate(holds) for other in holds[at + 1:]]
    return [(one, other) for one, other in pairs if are_apart(one, other, aim)]


def least_pair(ring, aim, many):
    """The least tuple of two holds that differ in the aim and feel alike for so many keys, or None."""
    rows = {hold: row_felt(ring, hold, many) for hold in all_holds(ring)}
    for one, other in pairs_apart(ring, aim):
        if rows[one] == rows[other]:
            return (one, other)
    return None
