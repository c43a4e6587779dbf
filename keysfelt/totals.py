"""Plans that feel the fewest keys in the mean over all holds (point 14)."""

from keysfelt.checks import SIDES, check_aim, check_ring
from keysfelt.holds import all_holds, shape_at
from keysfelt.plans import Feeling, most_steps


def total_of(ring, aim, value):
    """The sum over all holds of the keys felt behind the first one by a plan, None if value is no such plan."""
    check_ring(ring)
    check_aim(aim)
    if most_steps(Feeling(ring, aim), value) is None:
        return None
    return sum([keys_behind(ring, hold, value) for hold in all_holds(ring)])


def least_total(ring, aim):
    """The least total of a plan that tells the aim, None if none does."""
    check_ring(ring)
    check_aim(aim)
    return cheapest_plan(ring, aim)[0]


def mean_plan(ring, aim):
    """A plan of the least total that tells the aim, None if none does."""
    check_ring(ring)
    check_aim(aim)
    return cheapest_plan(ring, aim)[1]


def keys_behind(ring, hold, branches):
    """How many keys are felt behind the first one by the branches of a plan, for one hold."""
    left = 0
    right = 0
    tree = dict(branches)[shape_at(ring, hold, 0)]
    while tree:
        if tree[0] == "right":
            right += 1
            shape = shape_at(ring, hold, right)
        else:
            left += 1
            shape = shape_at(ring, hold, -left)
        tree = dict(tree[1])[shape]
    return left + right


def cheapest_plan(ring, aim):
    """The tuple (total, branches) of a plan with the least total, or (None, None)."""
    game = Feeling(ring, aim)
    return cheapest_branches(game, game.starts())


def cheapest_branches(game, pairs):
    """The tuple (total, branches) of branches for these pairs with the least total, or (None, None)."""
    found = [cheapest_tree(game, state) for _, state in pairs]
    if (None, None) in found:
        return (None, None)
    total = sum([cost for cost, _ in found])
    return (total, tuple([(shape, tree) for (shape, _), (_, tree) in zip(pairs, found)]))


def cheapest_tree(game, state):
    """The tuple (total, tree) of a tree at a state with the least total over its holds, or (None, None)."""
    if game.is_end(state):
        return (0, ())
    total = None
    tree = None
    for side in SIDES:
        pairs = game.after(state, side)
        # Without pairs all keys were felt: empty branches would pass for a tree.
        cost, branches = cheapest_branches(game, pairs) if pairs else (None, None)
        if cost is not None and (total is None or cost < total):
            total = cost
            tree = (side, branches)
    if total is None:
        return (None, None)
    # Each hold of the state feels the one key here.
    return (total + len(state[2]), tree)
