"""Plans that feel to both sides, and plans that lead to a wanted key (points 4 and 5).

Both are plans in one sense: something is done to a side, a shape is felt, and by this shape the
plan goes on from one state to the next one. Feeling and Moving tell what the states are; all else
is the same for both. Steps to a side are pairs (shape, state), ascending by their shapes.
"""

from keysfelt.checks import SIDES, check_aim, check_key, check_ring, is_integer, is_side
from keysfelt.holds import all_holds, are_apart, shape_at


class Feeling:
    """The hand stays and feels to both sides.

    A state is (left, right, holds): how many keys were felt to both sides, and the holds that
    the hand can have.
    """

    def __init__(self, ring, aim):
        self.ring = ring
        self.aim = aim

    def starts(self):
        """The pairs (shape, state) for the key at the hand."""
        return first_felt(self.ring)

    def after(self, state, side):
        """The pairs (shape, state) for the next key to a side, none if all keys were felt."""
        return next_felt(self.ring, state, side)

    def is_end(self, state):
        """Whether the aim is known."""
        holds = state[2]
        return not any([are_apart(holds[0], hold, self.aim) for hold in holds])


class Moving:
    """The hand moves, and feels the keys to which it comes.

    A state is the ascending tuple of the holds that the hand can have now. How it came there does
    not matter: what can still be felt depends on these holds alone.
    """

    def __init__(self, ring, key):
        self.ring = ring
        self.key = key

    def starts(self):
        """The pairs (shape, state) for the key at the hand."""
        return by_shape(self.ring, all_holds(self.ring), 0)

    def after(self, state, side):
        """The pairs (shape, state) for a move to a side."""
        step = 1 if side == "right" else -1
        moved = sorted([((key + way * step) % len(self.ring), way) for key, way in state])
        return by_shape(self.ring, moved, 0)

    def is_end(self, state):
        """Whether the hand is surely at the wanted key."""
        return all([hold[0] == self.key for hold in state])


def depth_of(ring, aim, value):
    """The greatest number of keys felt behind the first one by a plan, None if value is no such plan."""
    check_ring(ring)
    check_aim(aim)
    return most_steps(Feeling(ring, aim), value)


def least_depth(ring, aim):
    """The least depth of a plan that tells the aim, None if none does."""
    check_ring(ring)
    check_aim(aim)
    return best_plan(Feeling(ring, aim))[0]


def plan(ring, aim):
    """A plan of the least depth that tells the aim, None if none does."""
    check_ring(ring)
    check_aim(aim)
    return best_plan(Feeling(ring, aim))[1]


def moves_of(ring, key, value):
    """The greatest number of moves by a plan for the wanted key, None if value is no such plan."""
    check_ring(ring)
    check_key(ring, key)
    return most_steps(Moving(ring, key), value)


def least_moves(ring, key):
    """The least number of moves of a plan for the wanted key, None if there is none."""
    check_ring(ring)
    check_key(ring, key)
    return best_plan(Moving(ring, key))[0]


def way_to(ring, key):
    """A plan for the wanted key with the fewest moves, None if there is none."""
    check_ring(ring)
    check_key(ring, key)
    return best_plan(Moving(ring, key))[1]


def first_felt(ring):
    """The pairs (shape, state) for the key at the hand, the states as those of Feeling."""
    groups = by_shape(ring, all_holds(ring), 0)
    return [(shape, (0, 0, holds)) for shape, holds in groups]


def next_felt(ring, state, side):
    """The pairs (shape, state) for the next key to a side that was not felt, none if all keys were."""
    left, right, holds = state
    if left + right + 1 >= len(ring):
        return []
    if side == "right":
        right += 1
        groups = by_shape(ring, holds, right)
    else:
        left += 1
        groups = by_shape(ring, holds, -left)
    return [(shape, (left, right, group)) for shape, group in groups]


def by_shape(ring, holds, offset):
    """The pairs (shape, tuple of holds): which of the holds feel which shape at an offset."""
    groups = {}
    for hold in holds:
        groups.setdefault(shape_at(ring, hold, offset), []).append(hold)
    return [(shape, tuple(groups[shape])) for shape in sorted(groups)]


def most_steps(game, value):
    """The greatest number of steps by any value, a plan of the game; None if it is none."""
    return steps_of_branches(game, game.starts(), value)


def steps_of_branches(game, pairs, value):
    """The greatest number of steps by any value, branches for these pairs; None if it is none."""
    if not isinstance(value, tuple) or len(value) != len(pairs):
        return None
    most = 0
    for branch, (shape, state) in zip(value, pairs):
        if not is_branch_for(branch, shape):
            return None
        steps = steps_of_tree(game, state, branch[1])
        if steps is None:
            return None
        most = max(most, steps)
    return most


def is_branch_for(value, shape):
    """Whether any value is a tuple of this shape and something more."""
    return isinstance(value, tuple) and len(value) == 2 and is_integer(value[0], shape, shape)


def steps_of_tree(game, state, value):
    """The greatest number of steps by any value, a tree at this state; None if it is none."""
    if not isinstance(value, tuple):
        return None
    if len(value) == 0:
        return 0 if game.is_end(state) else None
    if len(value) != 2 or not is_side(value[0]):
        return None
    pairs = game.after(state, value[0])
    # Without this, empty branches would pass for a tree where all keys were felt.
    if len(pairs) == 0:
        return None
    steps = steps_of_branches(game, pairs, value[1])
    return None if steps is None else steps + 1


def best_plan(game):
    """The tuple (steps, branches) of a plan with the fewest steps at worst, or (None, None)."""
    table = all_states(game)
    choices = best_choices(game, table)
    pairs = game.starts()
    if not all([state in choices for _, state in pairs]):
        return (None, None)
    most = max([choices[state][0] for _, state in pairs])
    return (most, branches_by(table, choices, pairs))


def all_states(game):
    """The dict of all states that can come, each with the pairs behind it for each side."""
    table = {}
    waiting = [state for _, state in game.starts()]
    while waiting:
        state = waiting.pop()
        if state not in table:
            table[state] = sides_from(game, state)
            for pairs in table[state].values():
                waiting.extend([found for _, found in pairs])
    return table


def sides_from(game, state):
    """The dict of the pairs for each side to which a plan can go on from a state."""
    if game.is_end(state):
        return {}
    pairs = {side: game.after(state, side) for side in SIDES}
    return {side: pairs[side] for side in SIDES if pairs[side]}


def best_choices(game, table):
    """The dict of the tuples (steps at worst, side) for all states from which a plan can end."""
    choices = {state: (0, "") for state in table if game.is_end(state)}
    many = 0
    grown = True
    while grown:
        many += 1
        # What is found in this round is added after it, as it must not help in the same round.
        found = {state: side_within(table[state], choices) for state in table if state not in choices}
        grown = False
        for state, side in found.items():
            if side is not None:
                choices[state] = (many, side)
                grown = True
    return choices


def side_within(sides, choices):
    """The first side behind which all states have a choice, None if there is none."""
    for side, pairs in sides.items():
        if all([state in choices for _, state in pairs]):
            return side
    return None


def branches_by(table, choices, pairs):
    """The branches for these pairs by the best choices."""
    return tuple([(shape, tree_by(table, choices, state)) for shape, state in pairs])


def tree_by(table, choices, state):
    """The tree at a state by the best choices."""
    side = choices[state][1]
    if side == "":
        return ()
    return (side, branches_by(table, choices, table[state][side]))
