"""Which of several rings a hand has taken (point 13)."""

from keysfelt.checks import check_rings
from keysfelt.holds import all_holds, row_felt

# Two rows that go round after m and n keys are the same for ever if their first m + n keys are:
# twice the nine keys that a ring can have.
ENOUGH = 18


def least_which(rings):
    """The least number of keys felt to the right by which it is known which ring it is, or None."""
    check_rings(rings)
    for many in range(ENOUGH + 1):
        if least_alike(rings, many) is None:
            return many
    return None


def alike_in(rings):
    """The least tuple (index, hold, index, hold) of holds of two rings that feel alike for ever, or None."""
    check_rings(rings)
    return least_alike(rings, ENOUGH)


def least_alike(rings, many):
    """The least tuple (index, hold, index, hold) of holds of two rings that feel alike for so many keys, or None."""
    places = [
        (index, hold, row_felt(ring, hold, many))
        for index, ring in enumerate(rings) for hold in all_holds(ring)
    ]
    for at, (index, hold, row) in enumerate(places):
        for later, other, against in places[at + 1:]:
            if later > index and against == row:
                return (index, hold, later, other)
    return None
