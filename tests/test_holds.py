"""Points 2 and 3: rings, holds, and what is felt to the right."""

import unittest

from keysfelt.errors import BadAim, BadHold, BadNumber, BadRing
from keysfelt.holds import alike_pair, felt, holds_like, least_felt
from tests.helpers import (
    ANY_VALUES, NINE_KEYS, WRONG_AIMS, WRONG_RINGS, are_alike, holds_of, must_differ, row_of, small_rings, wrong_holds,
)

AIMS = ("key", "hold")


def slow_least_felt(ring, aim):
    holds = holds_of(ring)
    for many in range(41):
        pairs = [(one, other) for one in holds for other in holds if must_differ(aim, one, other)]
        if all(row_of(ring, one, many) != row_of(ring, other, many) for one, other in pairs):
            return many
    return None


def slow_alike_pair(ring, aim):
    holds = holds_of(ring)
    pairs = [
        (one, other) for one in holds for other in holds
        if one < other and must_differ(aim, one, other) and are_alike(ring, one, other)
    ]
    return min(pairs, default=None)


class ExamplesTest(unittest.TestCase):
    def test_examples_of_the_document(self):
        ring = (0, 1, 0, 2)
        self.assertEqual(felt(ring, (0, -1), 5), (0, 2, 0, 1, 0))
        self.assertEqual(holds_like(ring, (0, 1)), [(0, 1), (2, -1)])
        self.assertIsNone(least_felt(ring, "key"))
        self.assertEqual(alike_pair(ring, "key"), ((0, -1), (2, 1)))
        self.assertEqual(holds_like(ring, (1, 1)), [(1, -1), (1, 1)])
        found = [least_felt((0, 0, 1, 2), "hold"), least_felt((0, 1), "key"), least_felt((0, 1), "hold")]
        self.assertEqual(found + [least_felt((3,), "key")], [3, 1, None, 0])


class FeltTest(unittest.TestCase):
    def test_both_ways(self):
        self.assertEqual(felt((0, 1, 2, 3), (1, 1), 3), (1, 2, 3))
        self.assertEqual(felt((0, 1, 2, 3), (1, -1), 3), (1, 0, 3))

    def test_round_and_round(self):
        self.assertEqual(felt((0, 1, 2), (2, 1), 8), (2, 0, 1, 2, 0, 1, 2, 0))
        self.assertEqual(felt((0, 1, 2), (0, -1), 7), (0, 2, 1, 0, 2, 1, 0))

    def test_fewest_and_most_keys(self):
        self.assertEqual(felt((4, 5), (1, 1), 0), ())
        self.assertEqual(felt((4, 5), (1, 1), 1), (5,))
        self.assertEqual(felt((4, 5), (1, 1), 40), (5, 4) * 20)

    def test_ring_of_one_key(self):
        self.assertEqual(felt((8,), (0, 1), 3), (8, 8, 8))
        self.assertEqual(felt((8,), (0, -1), 40), (8,) * 40)

    def test_ring_of_nine_keys(self):
        ring = (0, 1, 2, 3, 4, 5, 6, 7, 8)
        self.assertEqual(felt(ring, (8, 1), 3), (8, 0, 1))
        self.assertEqual(felt(ring, (8, -1), 9), (8, 7, 6, 5, 4, 3, 2, 1, 0))

    def test_all_holds_of_many_rings(self):
        for ring in small_rings() + NINE_KEYS:
            for hold in holds_of(ring):
                for many in (0, 1, 2, 7, 40):
                    self.assertEqual(felt(ring, hold, many), row_of(ring, hold, many))

    def test_wrong_rings(self):
        for ring in WRONG_RINGS:
            with self.subTest(ring=ring), self.assertRaises(BadRing):
                felt(ring, (0, 1), 1)

    def test_wrong_holds(self):
        for ring in ((0,), (0, 1, 2), (1,) * 9):
            for hold in wrong_holds(len(ring)):
                with self.subTest(ring=ring, hold=hold), self.assertRaises(BadHold):
                    felt(ring, hold, 1)

    def test_wrong_numbers(self):
        for many in ANY_VALUES + [-1, 41, "3", (3,), [3]]:
            with self.subTest(many=many), self.assertRaises(BadNumber):
                felt((0, 1), (0, 1), many)

    def test_the_first_wrong_argument_is_told(self):
        self.assertRaises(BadRing, felt, [0], (0, 5), 41)
        self.assertRaises(BadRing, felt, (9,), (0, 1), True)
        self.assertRaises(BadHold, felt, (0,), [0, 1], 41)
        self.assertRaises(BadNumber, felt, (0,), (0, 1), 41)


class HoldsLikeTest(unittest.TestCase):
    def test_ring_of_one_key(self):
        self.assertEqual(holds_like((3,), (0, 1)), [(0, -1), (0, 1)])

    def test_two_keys_are_the_same_both_ways(self):
        self.assertEqual(holds_like((0, 1), (1, -1)), [(1, -1), (1, 1)])

    def test_ring_that_goes_round_more_than_once(self):
        self.assertEqual(holds_like((0, 1, 2, 0, 1, 2), (4, 1)), [(1, 1), (4, 1)])
        self.assertEqual(holds_like((0, 1, 0, 1), (0, 1)), [(0, -1), (0, 1), (2, -1), (2, 1)])

    def test_holds_that_differ_only_by_the_last_key(self):
        self.assertEqual(holds_like((0, 0, 0, 0, 0, 0, 0, 0, 1), (0, 1)), [(0, 1), (7, -1)])

    def test_many_rings(self):
        for ring in small_rings() + NINE_KEYS:
            for hold in holds_of(ring):
                like = [other for other in holds_of(ring) if are_alike(ring, hold, other)]
                self.assertEqual(holds_like(ring, hold), like)

    def test_returned_lists_are_new(self):
        first = holds_like((0, 1), (0, 1))
        first.append("more")
        self.assertEqual(holds_like((0, 1), (0, 1)), [(0, -1), (0, 1)])

    def test_wrong_arguments(self):
        for ring in WRONG_RINGS:
            with self.subTest(ring=ring), self.assertRaises(BadRing):
                holds_like(ring, (0, 1))
        for hold in wrong_holds(2):
            with self.subTest(hold=hold), self.assertRaises(BadHold):
                holds_like((0, 1), hold)
        self.assertRaises(BadRing, holds_like, [0, 1], [0, 1])


class AimTest(unittest.TestCase):
    def test_ring_of_one_key(self):
        self.assertEqual([least_felt((3,), "key"), least_felt((3,), "hold")], [0, None])
        self.assertEqual([alike_pair((3,), "key"), alike_pair((3,), "hold")], [None, ((0, -1), (0, 1))])

    def test_key_may_be_told_where_the_hold_is_not(self):
        self.assertEqual([least_felt((0, 1, 1), "key"), least_felt((0, 1, 1), "hold")], [None, None])
        self.assertEqual([least_felt((0, 1), "key"), alike_pair((0, 1), "key")], [1, None])
        self.assertEqual(alike_pair((0, 1), "hold"), ((0, -1), (0, 1)))

    def test_nine_keys(self):
        ring = (0, 1, 2, 3, 4, 5, 6, 7, 8)
        self.assertEqual([least_felt(ring, "key"), least_felt(ring, "hold")], [1, 2])
        self.assertEqual([least_felt((0,) * 7 + (1, 2), aim) for aim in AIMS], [8, 8])
        self.assertEqual(alike_pair((0,) * 9, "key"), ((0, -1), (1, -1)))
        self.assertEqual(alike_pair((0, 1, 2) * 3, "hold"), ((0, -1), (3, -1)))

    def test_many_rings(self):
        for ring in small_rings() + NINE_KEYS:
            for aim in AIMS:
                with self.subTest(ring=ring, aim=aim):
                    self.assertEqual(least_felt(ring, aim), slow_least_felt(ring, aim))
                    self.assertEqual(alike_pair(ring, aim), slow_alike_pair(ring, aim))

    def test_wrong_arguments(self):
        for function in (least_felt, alike_pair):
            for ring in WRONG_RINGS:
                with self.subTest(function=function, ring=ring), self.assertRaises(BadRing):
                    function(ring, "key")
            for aim in WRONG_AIMS:
                with self.subTest(function=function, aim=aim), self.assertRaises(BadAim):
                    function((0, 1), aim)
            self.assertRaises(BadRing, function, (), "side")
