"""A hand that feels its way round a ring and can take keys back (point 10)."""

from keysfelt.checks import MOST_SHAPE, check_ring, check_side, is_integer
from keysfelt.errors import BadShape, Full
from keysfelt.plans import first_felt, next_felt


class Hand:
    """A hand that has felt the key at it, and perhaps keys to both sides."""

    def __init__(self, ring, shape):
        check_ring(ring)
        self._ring = ring
        self._shape = shape
        # One state (left, right, holds) for each key felt, so that the last ones can be taken back.
        self._states = [state_by(first_felt(ring), shape)]

    def __len__(self):
        return len(self._states)

    @property
    def holds(self):
        """The ascending list of the holds that the hand can have."""
        return list(self._states[-1][2])

    @property
    def left(self):
        """How many keys were felt to the left."""
        return self._states[-1][0]

    @property
    def right(self):
        """How many keys were felt to the right."""
        return self._states[-1][1]

    def feel(self, side, shape):
        """Feel the next key to a side, and return the ascending list of the keys at which the hand can be."""
        check_side(side)
        if len(self._states) >= len(self._ring):
            raise Full()
        state = state_by(next_felt(self._ring, self._states[-1], side), shape)
        self._states.append(state)
        return sorted({key for key, _ in state[2]})

    def undo(self):
        """Take the last key felt back, but not the first one, and return whether there was one."""
        if len(self._states) == 1:
            return False
        self._states.pop()
        return True

    def copy(self):
        """An independent hand that stands as this one, and can take back the same."""
        other = Hand(self._ring, self._shape)
        other._states = list(self._states)
        return other


def state_by(pairs, shape):
    """The state that stands beside a shape; BadShape for any value of shape that stands in no pair."""
    states = dict(pairs)
    # True would be found as 1, and a list cannot be looked for in a dict.
    if not is_integer(shape, 0, MOST_SHAPE) or shape not in states:
        raise BadShape()
    return states[shape]
