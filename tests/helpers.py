"""What several tests need: wrong arguments, and slow, plain answers to compare with."""

from itertools import product

from keysfelt.errors import FeelError
from keysfelt.hands import Hand

# A value nested sixty deep, as deep as any value can be.
DEEP_TUPLE = ()
DEEP_LIST = []
for _ in range(59):
    DEEP_TUPLE = (DEEP_TUPLE,)
    DEEP_LIST = [DEEP_LIST]

ANY_VALUES = [
    None, True, False, -7, 10 ** 40, "", "ring", "key ", "Hold", [], {}, {0: 1}, [0, 1], [(0, ())],
    {"key": ()}, (None,), (True,), ((0, 1),), ("right",), ("right", ()), FeelError(), (FeelError(),),
    Hand((0, 1), 0), (Hand((0, 1), 0),), DEEP_TUPLE, DEEP_LIST,
]

WRONG_RINGS = [value for value in ANY_VALUES] + [
    (), 0, (0,) * 10, (9,), (-1,), (0, 9), (0, -1, 0), (0, True), (False, 0), (0, "1"), (0, None),
    [0], [0, 1, 2], "012", ((0,), 1), (0, (1,)), (0, [1]),
]

# Values that are no plans of any ring.
NO_PLANS = ANY_VALUES + [0, 1, (), ((),), (((),),), "()", ((0,),), ((0, (), ()),), ((True, ()),), ([0, ()],)]

WRONG_AIMS = [value for value in ANY_VALUES] + [
    0, 1, "KEY", "keys", "k", "holds", "hold\n", ("key",), ["key"], ["hold"], {"key"}, b"key",
]

WRONG_COUNTS = ANY_VALUES + [
    (), (0,), (0,) * 9, (0,) * 10, (1,) * 10, (1, 0, 0, 0, 0, 0, 0, 0, 0, 0), (41,), (-1, 2), (40, 1), (20, 21),
    (0, 41), (5, -1), (True,), (1, False), ("1",), (None, 1), ((1,),), ([1],), [1], [1, 2], 1, 40, "1",
]

# No pieces with shapes below two.
WRONG_PIECES = [value for value in ANY_VALUES if value not in ((), ((0, 1),), ((),))] + [
    0, (0,), (0, 1), [(0,)], ([0],), ((0,), [1]), ((0,), 1), ((0,), None), ((2,),), ((0, 1, 2),), ((0, -1),),
    ((True,),), ((0, False),), (("0",),), ((None,),), (((0,),),), ("01",), ((0,) * 13,), ((),) * 9, ((0,),) * 9,
    ((0,),) * 7 + ((2,),),
]


def wrong_holds(many):
    """Values that are no holds of a ring with so many keys."""
    return ANY_VALUES + [
        (), (0,), 0, (0, 1, 1), (many, 1), (-1, 1), (0, 0), (0, 2), (0, -2), (True, 1), (False, 1),
        (0, True), (0, False), [0, 1], ([0], 1), ("0", 1), (0, "1"), (0, None), ((0, 1),), ((0, 1), 1),
    ]


def wrong_numbers(low, high):
    """Values that are no integers from low to high."""
    return ANY_VALUES + [low - 1, high + 1, str(low), (low,), [low], {low: low}]


def wrong_rows(fewest, most):
    """Values that are no tuples of so many shapes, from fewest to most of them."""
    wrong = [value for value in ANY_VALUES if value != ()] + [0, "0" * most, [0] * most]
    wrong += [(0,) * (most + 1)] + [(0,) * many for many in range(fewest)]
    for value in (-1, 9, True, False, None, "0", (0,), [0], 10 ** 40) if most > 0 else ():
        wrong += [(value,) + (0,) * (most - 1), (0,) * (most - 1) + (value,)]
    return wrong


def wrong_keys(many):
    """Values that are no keys of a ring with so many keys."""
    return ANY_VALUES + [-1, many, many + 1, "0", "a", (0,), [0], (0, 1)]


def all_rings(keys, shapes):
    """All rings of so many keys with shapes below shapes."""
    return list(product(range(shapes), repeat=keys))


def counts_up_to(keys, shapes):
    return [counts for counts in product(range(keys + 1), repeat=shapes) if 1 <= sum(counts) <= keys]


def small_rings():
    """Rings of 1 to 5 keys with three shapes, and of 6 keys with two."""
    rings = all_rings(6, 2)
    for keys in range(1, 6):
        rings += all_rings(keys, 3)
    return rings


NINE_KEYS = [
    (0,) * 9, (0, 1, 2) * 3, (0, 1, 2, 3, 4, 5, 6, 7, 8), (8, 0, 0, 0, 0, 0, 0, 0, 0),
    (0, 0, 0, 0, 0, 0, 0, 1, 2), (0, 1, 0, 0, 1, 1, 0, 1, 2), (0, 0, 1, 0, 0, 0, 1, 0, 1),
    (0, 1, 2, 3, 4, 4, 3, 2, 1),
]


def holds_of(ring):
    return sorted((key, way) for way in (1, -1) for key in range(len(ring)))


def row_of(ring, hold, many):
    """What is felt, step by step round the ring."""
    at, way = hold
    row = []
    for _ in range(many):
        row.append(ring[at])
        at += way
        if at == len(ring):
            at = 0
        elif at < 0:
            at = len(ring) - 1
    return tuple(row)


def are_alike(ring, one, other):
    """Whether two holds feel alike, asked of far more than one round."""
    return row_of(ring, one, 40) == row_of(ring, other, 40)


def must_differ(aim, one, other):
    if aim == "key":
        return one[0] != other[0]
    return one != other


def turned_and_flipped(row):
    """All that a row becomes by turning and flipping, as often as it does."""
    rows = []
    for way in (list(row), list(row)[::-1]):
        for _ in row:
            way = way[1:] + way[:1]
            rows.append(tuple(way))
    return rows or [()]


def tells(shapes, aim, many):
    """Whether so many keys felt to the right tell the aim, for shapes of any kind on a ring."""
    known = {}
    for hold in holds_of(shapes):
        known.setdefault(row_of(shapes, hold, many), set()).add(hold[0] if aim == "key" else hold)
    return all(len(group) == 1 for group in known.values())


def told(aim, holds):
    return not any(must_differ(aim, one, other) for one in holds for other in holds)


def window(ring, hold, left, right):
    """What is felt from so many keys to the left on to so many to the right."""
    key, way = hold
    return row_of(ring, ((key - left * way) % len(ring), way), left + 1 + right)


def parts_of(things, shape_of):
    """The things apart by their shapes."""
    parts = {}
    for thing in things:
        parts.setdefault(shape_of(thing), set()).add(thing)
    return [frozenset(part) for part in parts.values()]


def follow(branches, shape):
    """The tree for a shape, which stands just once."""
    trees = [tree for found, tree in branches if found == shape]
    assert len(trees) == 1
    return trees[0]


def ends_by_hand(ring, branches):
    """Follow the branches of a plan of point 4 from each hold: which holds feel what, first to last."""
    ends = {}
    for hold in holds_of(ring):
        left = right = 0
        path = [("first", ring[hold[0]])]
        tree = follow(branches, ring[hold[0]])
        while tree:
            if tree[0] == "right":
                right += 1
                shape = window(ring, hold, left, right)[-1]
            else:
                left += 1
                shape = window(ring, hold, left, right)[0]
            path.append((tree[0], shape))
            tree = follow(tree[1], shape)
        ends.setdefault(tuple(path), []).append(hold)
    return ends


def spoiled(value):
    """Values with one thing wrong each, at every place of a plan or of branches in it."""
    found = [list(value), value + (value[-1],), value[:-1], value + ((9, ()),), (value,)]
    if len(value) > 1:
        found.append(value[::-1])
    for at, (shape, tree) in enumerate(value):
        def put(branch):
            return value[:at] + (branch,) + value[at + 1:]
        found += [put(branch) for branch in (
            [shape, tree], (shape, tree, ()), (shape,), (), (shape + 1, tree), (str(shape), tree), (None, tree),
            (shape, None), (shape, []), (shape, 0), (shape, "right"), (shape, False), (shape, {}),
        )]
        if shape < 2:
            found.append(put((shape == 1, tree)))
        if tree:
            side, branches = tree
            found += [put((shape, changed)) for changed in (
                (), [side, branches], (side,), (side, branches, ()), (side, ()), ("up", branches), (0, branches),
                ("Right", branches), (None, branches), (True, branches), ((side,), branches), ([side], branches),
            )]
            found += [put((shape, (side, changed))) for changed in spoiled(branches)]
    return found
