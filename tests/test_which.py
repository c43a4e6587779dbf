"""Point 13: which of several rings a hand has taken."""

import unittest

from keysfelt.errors import BadRings
from keysfelt.which import alike_in, least_which
from tests.helpers import ANY_VALUES, NINE_KEYS, WRONG_RINGS, all_rings, holds_of, row_of, turned_and_flipped

# Rings of nine keys and less, of which some feel nearly as another one.
NEARLY = [
    (0, 1, 0, 0, 1), (0, 1, 0, 0, 1, 0, 1, 0), (0, 0, 1), (0, 0, 1, 0, 0, 1), (0, 0, 1, 0, 0, 1, 0, 0, 1),
    (0, 0, 1, 0, 0, 1, 0, 0, 2), (0, 0, 0, 0, 0, 0, 0, 0, 1), (0, 0, 0, 0, 0, 0, 0, 1), (0,), (0,) * 9,
]


def pairs_of(rings):
    """All tuples (index, hold, index, hold) for holds of two rings."""
    return [
        (index, hold, later, other)
        for index in range(len(rings)) for later in range(index + 1, len(rings))
        for hold in holds_of(rings[index]) for other in holds_of(rings[later])
    ]


def first_unlike(rings, pair):
    """How many keys tell the two holds, None if a number that is far too great does not."""
    index, hold, later, other = pair
    # Both rings have gone round as often as they can after at most 8 * 9 keys.
    rows = zip(row_of(rings[index], hold, 80), row_of(rings[later], other, 80))
    return next((at + 1 for at, (one, against) in enumerate(rows) if one != against), None)


def slow_least_which(rings):
    found = [first_unlike(rings, pair) for pair in pairs_of(rings)]
    return None if None in found else max(found, default=0)


def slow_alike_in(rings):
    return min((pair for pair in pairs_of(rings) if first_unlike(rings, pair) is None), default=None)


class ExamplesTest(unittest.TestCase):
    def test_examples_of_the_document(self):
        self.assertEqual([least_which(((0, 1), (0, 2))), alike_in(((0, 1), (0, 2)))], [2, None])
        self.assertIsNone(least_which(((0, 1), (1, 0, 1, 0))))
        self.assertEqual(alike_in(((0, 1), (1, 0, 1, 0))), (0, (0, -1), 1, (1, -1)))
        self.assertEqual([least_which(((3,),)), least_which(((0,), (1,)))], [0, 1])


class WhichTest(unittest.TestCase):
    def compare(self, rings):
        with self.subTest(rings=rings):
            self.assertEqual(least_which(rings), slow_least_which(rings))
            self.assertEqual(alike_in(rings), slow_alike_in(rings))

    def test_one_ring(self):
        for ring in [(0,), (0, 0)] + NINE_KEYS:
            self.assertEqual([least_which((ring,)), alike_in((ring,))], [0, None])

    def test_two_small_rings(self):
        rings = [ring for keys in range(1, 5) for ring in all_rings(keys, 2)] + [(0, 1, 2), (2, 0, 1, 0)]
        for one in rings:
            for other in rings:
                self.compare((one, other))

    def test_the_same_ring_twice_is_never_told(self):
        self.assertEqual(alike_in(((0, 1, 2), (0, 1, 2))), (0, (0, -1), 1, (0, -1)))
        self.assertIsNone(least_which(((0, 1, 2), (0, 1, 2))))

    def test_turned_and_flipped(self):
        for ring in NINE_KEYS[2:5]:
            for other in turned_and_flipped(ring):
                self.compare((ring, other))
                self.assertIsNone(least_which((ring, other)))

    def test_keys_twice_and_nearly_so(self):
        for one in NEARLY:
            for other in NEARLY + NINE_KEYS:
                self.compare((one, other))

    def test_rings_of_eight_and_nine_keys_that_differ_late(self):
        rings = ((0,) * 8 + (1,), (0,) * 7 + (1,))
        # Seven keys of shape 0, the other one, and seven more are felt on both.
        self.assertEqual([least_which(rings), slow_least_which(rings)], [16, 16])

    def test_more_keys_than_one_round_can_be_needed(self):
        rings = ((0, 1, 0, 0, 1), (0, 1, 0, 0, 1, 0, 1, 0))
        self.assertEqual([least_which(rings), slow_least_which(rings)], [12, 12])

    def test_several_rings(self):
        for many in range(3, 7):
            for start in range(len(NEARLY)):
                self.compare(tuple((NEARLY + NEARLY)[start:start + many]))
        self.compare(((0, 1, 2), (0, 1, 3), (0, 2, 3), (1, 2, 3), (4,), (5, 6)))
        self.compare(((4,), (0, 1), (5, 6), (1, 0), (5, 6), (4, 4)))
        self.compare(tuple(NINE_KEYS[:6]))

    def test_the_least_tuple_has_the_least_first_hold(self):
        # The first index, then its hold, and only then the other index.
        rings = ((0, 1, 2), (1, 2, 0, 1, 2, 0), (2, 1, 0))
        self.assertEqual(alike_in(rings), slow_alike_in(rings))
        self.assertEqual(alike_in(((0, 1), (2,), (0, 1), (2, 2))), (0, (0, -1), 2, (0, -1)))
        self.assertEqual(alike_in(((5,), (2,), (0, 1), (2, 2))), (1, (0, -1), 3, (0, -1)))


class WrongArgumentsTest(unittest.TestCase):
    def index_of(self, function, rings):
        with self.assertRaises(BadRings) as caught:
            function(rings)
        return caught.exception.index

    def test_no_tuple_of_one_to_six_things(self):
        values = [value for value in ANY_VALUES if not isinstance(value, tuple)] + [
            (), ((0,),) * 7, (None,) * 7, [(0,)], [(0,), (1,)], "ring", 3, {(0,): 1},
        ]
        for function in (least_which, alike_in):
            for value in values:
                with self.subTest(function=function, value=value):
                    self.assertIsNone(self.index_of(function, value))

    def test_the_first_thing_that_is_no_ring(self):
        for function in (least_which, alike_in):
            for value in WRONG_RINGS:
                with self.subTest(function=function, value=value):
                    self.assertEqual(self.index_of(function, (value,)), 0)
                    self.assertEqual(self.index_of(function, ((0,), value)), 1)
                    self.assertEqual(self.index_of(function, ((0,),) * 5 + (value,)), 5)
                    self.assertEqual(self.index_of(function, ((0,), value, (1,), value)), 1)

    def test_a_ring_is_not_rings(self):
        self.assertEqual(self.index_of(least_which, (0, 1)), 0)
        self.assertEqual(self.index_of(alike_in, ((0, 1), [0, 1])), 1)
        self.assertEqual(self.index_of(alike_in, ((0, 1), (True,))), 1)
