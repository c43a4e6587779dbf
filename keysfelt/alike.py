"""Rings that are alike by turning and flipping (points 7 to 9).

A row of shapes that goes round need not be a ring here: it may have no key, or ten.
"""

from math import comb, gcd

from keysfelt.checks import MOST_SHAPE, check_counts, check_number, check_pieces, check_ring, check_seen
from keysfelt.errors import TooMany
from keysfelt.holds import all_holds, row_felt

MOST_LISTED = 8
MOST_KEYS_WITH = 6
MOST_SHAPES_WITH = 3


def are_alike(one, other):
    """Whether one ring becomes the other when it is turned or flipped."""
    check_ring(one)
    check_ring(other)
    return least_row(one) == least_row(other)


def least_ring(ring):
    """The least ring that is alike to a ring."""
    check_ring(ring)
    return least_row(ring)


def how_many(counts):
    """The number of rings with so many keys of each shape of which no two are alike."""
    check_counts(counts)
    keys = sum(counts)
    turned = sum([kept_by_turn(counts, turn) for turn in range(keys)])
    flipped = sum([kept_by_flip(counts, flip) for flip in range(keys)])
    # By Burnside's lemma it is what a turn or a flip keeps, in the mean over all of them.
    return (turned + flipped) // (2 * keys)


def all_rings(counts):
    """The ascending list of the least rings with so many keys of each shape."""
    check_counts(counts)
    if sum(counts) > MOST_LISTED:
        raise TooMany()
    return [row for row in rows_from_least(counts) if least_row(row) == row]


def lost_from(ring, seen):
    """The ascending list of the keys one of which can be lost, by what is felt all round."""
    check_ring(ring)
    check_seen(seen, len(ring) - 1, len(ring) - 1)
    least = least_row(seen)
    return [key for key in range(len(ring)) if least_row(ring[:key] + ring[key + 1:]) == least]


def put_into(ring, seen):
    """The ascending list of the tuples (key, shape): this shape can have been put in behind this key."""
    check_ring(ring)
    check_seen(seen, len(ring) + 1, len(ring) + 1)
    least = least_row(seen)
    places = [(key, shape) for key in range(len(ring)) for shape in range(MOST_SHAPE + 1)]
    return [(key, shape) for key, shape in places if least_row(with_key(ring, key, shape)) == least]


def rings_with(keys, shapes, pieces):
    """The ascending list of the least rings of so many keys and shapes on which all pieces can be felt."""
    check_number(keys, 1, MOST_KEYS_WITH)
    check_number(shapes, 1, MOST_SHAPES_WITH)
    check_pieces(pieces, shapes)
    return [ring for ring in least_below(keys, shapes) if all([can_feel(ring, piece) for piece in pieces])]


def least_row(row):
    """The least of what is felt once round a row of shapes, from anywhere, either way."""
    return min([row_felt(row, hold, len(row)) for hold in all_holds(row)], default=())


def rows_of(counts):
    """The number of rows, from a first key to a last one, with so many keys of each shape."""
    ways = 1
    keys = 0
    for count in counts:
        keys += count
        ways *= comb(keys, count)
    return ways


def kept_by_turn(counts, turn):
    """The number of rows with so many keys of each shape that a turn by so many keys does not change."""
    # A turn takes each key through a loop of keys, all loops as long, and all keys of one are alike.
    size = sum(counts) // gcd(sum(counts), turn)
    if any([count % size for count in counts]):
        return 0
    return rows_of([count // size for count in counts])


def kept_by_flip(counts, flip):
    """The number of rows with so many keys of each shape that are the same if key k goes to key flip - k."""
    keys = sum(counts)
    lone = len([key for key in range(keys) if (flip - 2 * key) % keys == 0])
    odd = len([count for count in counts if count % 2])
    # All keys but lone ones go to another one, so each odd count needs a lone key.
    if odd > lone:
        return 0
    # Two lone keys of one shape are put as any other pair; of two shapes, each can be the first.
    ways = rows_of([count // 2 for count in counts])
    return 2 * ways if odd == 2 else ways


def rows_from_least(counts):
    """The ascending list of the rows with so many keys of each shape that begin with the least shape."""
    shapes = [shape for shape, count in enumerate(counts) if count > 0]
    # A least ring begins with its least shape: all other rows need not be made.
    rows = [(shapes[0],)]
    for _ in range(sum(counts) - 1):
        rows = [row + (shape,) for row in rows for shape in shapes if row.count(shape) < counts[shape]]
    return rows


def rows_below(keys, shapes):
    """The ascending list of the rows of so many keys with shapes below shapes."""
    rows = [()]
    for _ in range(keys):
        rows = [row + (shape,) for row in rows for shape in range(shapes)]
    return rows


def least_below(keys, shapes):
    """The ascending list of the least rings of so many keys with shapes below shapes."""
    return [row for row in rows_below(keys, shapes) if least_row(row) == row]


def with_key(ring, key, shape):
    """The shapes of a ring in which a key of this shape was put in behind a key."""
    return ring[:key + 1] + (shape,) + ring[key + 1:]


def can_feel(ring, piece):
    """Whether a piece can be felt to the right from anywhere on a ring, either way."""
    return any([row_felt(ring, hold, len(piece)) == piece for hold in all_holds(ring)])
