"""Points 4 and 5: plans that feel to both sides, and plans that lead to a wanted key."""

import unittest
from functools import lru_cache

from keysfelt import errors
from keysfelt.errors import BadAim, BadKey, BadRing
from keysfelt.holds import least_felt
from keysfelt.plans import Feeling, Moving, depth_of, least_depth, least_moves, moves_of, plan, way_to
from tests.helpers import (
    DEEP_LIST, DEEP_TUPLE, NINE_KEYS, NO_PLANS, WRONG_AIMS, WRONG_RINGS, are_alike, ends_by_hand, follow, holds_of,
    parts_of, small_rings, spoiled, told, window, wrong_keys,
)

AIMS = ("key", "hold")


def slow_least_depth(ring, aim):
    """The least depth at worst, by trying all sides for each set of holds."""
    @lru_cache(None)
    def least(holds, left, right):
        if told(aim, holds):
            return 0
        if left + right + 1 == len(ring):
            return 99
        sides = [(left, right + 1), (left + 1, right)]
        return min(1 + worst(holds, *side) for side in sides)

    def worst(holds, left, right):
        parts = parts_of(holds, lambda hold: window(ring, hold, left, right))
        return max(least(part, left, right) for part in parts)

    found = worst(holds_of(ring), 0, 0)
    return None if found >= 99 else found


def step(ring, hold, side):
    key, way = hold
    return ((key + (way if side == "right" else -way)) % len(ring), way)


def slow_least_moves(ring, key):
    """The fewest moves at worst, by trying all plans with so many."""
    @lru_cache(None)
    def can(holds, many):
        if all(hold[0] == key for hold in holds):
            return True
        if many == 0:
            return False
        return any(can_all([step(ring, hold, side) for hold in holds], many - 1) for side in ("right", "left"))

    def can_all(holds, many):
        return all(can(part, many) for part in parts_of(holds, lambda hold: ring[hold[0]]))

    for many in range(2 * len(ring) + 1):
        if can_all(holds_of(ring), many):
            return many
    return None


def depth_by_hand(ring, aim, branches):
    """Follow the branches from each hold: the most keys felt behind the first one, where the aim is known."""
    ends = ends_by_hand(ring, branches)
    assert all(told(aim, holds) for holds in ends.values())
    return max(len(path) - 1 for path in ends)


def moves_by_hand(ring, key, branches):
    """Follow the branches from each hold: the most moves, at the end of which the hand is at the key."""
    most = 0
    for hold in holds_of(ring):
        moves = 0
        tree = follow(branches, ring[hold[0]])
        while tree:
            hold = step(ring, hold, tree[0])
            moves += 1
            tree = follow(tree[1], ring[hold[0]])
        assert hold[0] == key
        most = max(most, moves)
    return most


class ExamplesTest(unittest.TestCase):
    def test_examples_of_the_document(self):
        ring = (0, 0, 1, 2)
        self.assertEqual(least_depth(ring, "hold"), 2)
        self.assertEqual(depth_of(ring, "hold", plan(ring, "hold")), 2)
        self.assertEqual(least_depth((0, 1), "key"), 0)
        self.assertEqual(plan((0, 1), "key"), ((0, ()), (1, ())))
        self.assertIsNone(plan((0, 1), "hold"))
        self.assertEqual(least_moves((0, 1, 2), 1), 2)
        self.assertEqual(moves_of((0, 1, 2), 1, way_to((0, 1, 2), 1)), 2)
        self.assertIsNone(least_moves((0, 1, 0, 2), 0))
        self.assertEqual(least_moves((0, 1, 0, 2), 1), 3)


class DepthTest(unittest.TestCase):
    def test_ring_of_one_key(self):
        self.assertEqual(plan((5,), "key"), ((5, ()),))
        self.assertEqual([least_depth((5,), "key"), depth_of((5,), "key", ((5, ()),))], [0, 0])
        self.assertEqual([least_depth((5,), "hold"), plan((5,), "hold")], [None, None])
        self.assertIsNone(depth_of((5,), "hold", ((5, ()),)))

    def test_a_plan_by_hand(self):
        right = ("right", ((1, ()), (2, ())))
        left = ("left", ((1, ()), (2, ())))
        ends = ((1, ("left", ((0, ()), (2, ())))), (2, ("right", ((0, ()), (1, ())))))
        for tree in (right, left):
            value = ((0, tree),) + ends
            self.assertEqual(depth_of((0, 1, 2), "hold", value), 1)
        self.assertIsNone(depth_of((0, 1, 2), "hold", ((0, ()),) + ends))
        self.assertEqual(depth_of((0, 1, 2), "key", ((0, ()),) + ends), 1)

    def test_both_sides_are_felt_on_from_what_was_felt(self):
        # The hand is at the 1: to its right 2 or 0; then to its left the other one, not the same again.
        value = ((0, ()), (1, ("right", ((0, ("left", ((2, ()),))), (2, ("left", ((0, ()),)))))), (2, ()))
        self.assertEqual(depth_of((0, 1, 2), "key", value), 2)
        again = ((0, ()), (1, ("right", ((0, ("left", ((0, ()),))), (2, ("left", ((2, ()),)))))), (2, ()))
        self.assertIsNone(depth_of((0, 1, 2), "key", again))

    def test_feeling_on_where_it_is_known_counts(self):
        value = ((0, ("left", ((1, ()),))), (1, ()))
        self.assertEqual(depth_of((0, 1), "key", value), 1)

    def test_nothing_is_felt_when_all_keys_were_felt(self):
        self.assertIsNone(depth_of((5,), "key", ((5, ("right", ())),)))
        self.assertIsNone(depth_of((5,), "hold", ((5, ("right", ())),)))
        self.assertIsNone(depth_of((5,), "key", ((5, ("right", ((5, ()),))),)))
        full = ((0, ("left", ((1, ("right", ((1, ()),))),))), (1, ()))
        self.assertIsNone(depth_of((0, 1), "key", full))
        self.assertIsNone(depth_of((0, 1), "hold", ((0, ("left", ((1, ("right", ())),))), (1, ("left", ())))))
        three = ("right", ((1, ("left", ((2, ("left", ()),),))), (2, ())))
        self.assertIsNone(depth_of((0, 1, 2), "key", ((0, three), (1, ()), (2, ()))))

    def test_both_sides_are_better_than_one(self):
        # Three zeros in a row: to one side up to three keys more, to both sides two.
        ring = (0, 0, 0, 1, 2)
        self.assertEqual([least_felt(ring, "key"), least_depth(ring, "key")], [4, 2])

    def test_rings_that_cannot_be_told(self):
        for ring in ((0, 0), (0, 1, 0, 1), (0, 1, 2) * 3, (0,) * 9, (0, 1, 1)):
            with self.subTest(ring=ring):
                self.assertEqual([least_depth(ring, "key"), plan(ring, "key")], [None, None])
                self.assertIsNone(depth_of(ring, "key", plan(ring, "key")))

    def test_many_rings(self):
        for ring in small_rings() + NINE_KEYS:
            for aim in AIMS:
                with self.subTest(ring=ring, aim=aim):
                    least = slow_least_depth(ring, aim)
                    self.assertEqual(least is None, least_felt(ring, aim) is None)
                    self.assertEqual(least_depth(ring, aim), least)
                    value = plan(ring, aim)
                    self.assertEqual(depth_of(ring, aim, value), least)
                    self.assertEqual(plan(ring, aim), value)
                    if least is not None:
                        self.assertEqual(depth_by_hand(ring, aim, value), least)

    def test_values_that_are_no_plans(self):
        for ring in ((0,), (0, 1), (0, 0, 1, 2), (0, 1, 2) * 3):
            for aim in AIMS:
                for value in NO_PLANS:
                    with self.subTest(ring=ring, aim=aim, value=value):
                        self.assertIsNone(depth_of(ring, aim, value))

    def test_spoiled_plans(self):
        for ring, aim in (((0,), "key"), ((0, 1), "key"), ((0, 0, 1, 2), "hold"), ((0, 1, 0, 0, 1, 1, 0, 1, 2), "key")):
            for value in spoiled(plan(ring, aim)):
                with self.subTest(ring=ring, aim=aim, value=value):
                    self.assertIsNone(depth_of(ring, aim, value))

    def test_objects_of_the_package_are_no_plans(self):
        for thing in (errors.BadRing(), Feeling((0,), "key"), Moving((0,), 0)):
            self.assertIsNone(depth_of((0,), "key", thing))
            self.assertIsNone(depth_of((0,), "key", ((0, thing),)))
            self.assertIsNone(depth_of((0, 1), "key", ((0, (thing, ())), (1, ()))))
            self.assertIsNone(moves_of((0,), 0, ((thing, ()),)))

    def test_the_value_is_not_changed(self):
        value = [[0, ["right", [[1, []]]]], {"a": [1]}]
        depth_of((0, 1), "key", value)
        moves_of((0, 1), 0, value)
        self.assertEqual(value, [[0, ["right", [[1, []]]]], {"a": [1]}])

    def test_wrong_arguments(self):
        calls = [least_depth, plan, lambda ring, aim: depth_of(ring, aim, ((0, ()),))]
        for number, function in enumerate(calls):
            for ring in WRONG_RINGS:
                with self.subTest(number=number, ring=ring), self.assertRaises(BadRing):
                    function(ring, "key")
            for aim in WRONG_AIMS:
                with self.subTest(number=number, aim=aim), self.assertRaises(BadAim):
                    function((0, 1), aim)
            self.assertRaises(BadRing, function, [0], "side")
        self.assertRaises(BadAim, depth_of, (0, 1), True, None)


class MovesTest(unittest.TestCase):
    def test_ring_of_one_key(self):
        self.assertEqual([least_moves((5,), 0), way_to((5,), 0)], [0, ((5, ()),)])
        self.assertEqual(moves_of((5,), 0, ((5, ()),)), 0)
        self.assertEqual(moves_of((5,), 0, ((5, ("left", ((5, ()),))),)), 1)

    def test_two_keys(self):
        for side in ("right", "left"):
            self.assertEqual(moves_of((0, 1), 1, ((0, (side, ((1, ()),))), (1, ()))), 1)
        self.assertEqual(least_moves((0, 1), 1), 1)
        self.assertEqual([least_moves((0, 0), 1), way_to((0, 0), 1)], [None, None])

    def test_a_plan_must_end_at_the_wanted_key(self):
        value = ((0, ("right", ((1, ()),))), (1, ()))
        self.assertEqual(moves_of((0, 1), 1, value), 1)
        self.assertIsNone(moves_of((0, 1), 0, value))
        self.assertIsNone(moves_of((0, 1), 1, ((0, ()), (1, ()))))

    def test_moves_may_go_back_and_round_more_than_once(self):
        back = ((0, ("right", ((1, ("left", ((0, ()),))),))), (1, ("left", ((0, ()),))))
        self.assertEqual(moves_of((0, 1), 0, back), 2)
        tree = ()
        for _ in range(5):
            tree = ("right", ((0, ("right", ((1, tree),))),))
        self.assertEqual(moves_of((0, 1), 1, ((0, ("left", ((1, tree),))), (1, tree))), 11)

    def test_a_deep_plan(self):
        tree = ()
        for _ in range(19):
            tree = ("right", ((5, tree),))
        self.assertEqual(moves_of((5,), 0, ((5, tree),)), 19)
        self.assertIsNone(moves_of((5, 5), 0, ((5, tree),)))
        self.assertIsNone(moves_of((5,), 0, DEEP_TUPLE))
        self.assertIsNone(moves_of((5,), 0, DEEP_LIST))

    def test_branches_only_for_what_can_be_felt(self):
        # From the 1, and with the 0 to the right, the next key to the right is surely the 2.
        sure = ("right", ((0, ("right", ((2, ()),))), (2, ())))
        value = ((0, ("right", ((1, ("right", ((2, ()),))), (2, ())))), (1, sure), (2, ()))
        self.assertEqual(moves_of((0, 1, 2), 2, value), 2)
        more = ("right", ((0, ("right", ((1, ()), (2, ())))), (2, ())))
        self.assertIsNone(moves_of((0, 1, 2), 2, ((0, value[0][1]), (1, more), (2, ()))))

    def test_nine_keys(self):
        ring = (0, 1, 2, 3, 4, 5, 6, 7, 8)
        self.assertEqual([least_moves(ring, key) for key in (0, 4, 8)], [5, 5, 5])
        for key in range(9):
            self.assertEqual([least_moves((0,) * 9, key), least_moves((0, 1, 2) * 3, key)], [None, None])
            self.assertEqual(least_moves((8,) + (0,) * 8, key) is None, key != 0)

    def test_there_is_a_plan_just_if_no_other_key_is_alike(self):
        for ring in small_rings() + NINE_KEYS:
            for key in range(len(ring)):
                alike = [
                    1 for one in holds_of(ring) for other in holds_of(ring)
                    if one[0] == key and other[0] != key and are_alike(ring, one, other)
                ]
                self.assertEqual(least_moves(ring, key) is None, len(alike) > 0)

    def test_many_rings(self):
        for ring in small_rings() + NINE_KEYS:
            for key in range(len(ring)):
                with self.subTest(ring=ring, key=key):
                    least = slow_least_moves(ring, key)
                    self.assertEqual(least_moves(ring, key), least)
                    value = way_to(ring, key)
                    self.assertEqual(moves_of(ring, key, value), least)
                    self.assertEqual(way_to(ring, key), value)
                    if least is not None:
                        self.assertEqual(moves_by_hand(ring, key, value), least)

    def test_values_that_are_no_plans(self):
        for ring in ((0,), (0, 1), (0, 0, 1, 2), (0, 1, 2) * 3):
            for value in NO_PLANS:
                with self.subTest(ring=ring, value=value):
                    self.assertIsNone(moves_of(ring, 0, value))

    def test_spoiled_plans(self):
        for ring, key in (((0,), 0), ((0, 1), 1), ((0, 1, 0, 2), 1), ((0, 0, 1, 2), 3), ((0, 1, 0, 0, 1, 1, 0, 1, 2), 4)):
            for value in spoiled(way_to(ring, key)):
                with self.subTest(ring=ring, key=key, value=value):
                    self.assertIsNone(moves_of(ring, key, value))

    def test_wrong_arguments(self):
        calls = [least_moves, way_to, lambda ring, key: moves_of(ring, key, ((0, ()),))]
        for number, function in enumerate(calls):
            for ring in WRONG_RINGS:
                with self.subTest(number=number, ring=ring), self.assertRaises(BadRing):
                    function(ring, 0)
            for ring in ((0,), (0, 1, 2), (0,) * 9):
                for key in wrong_keys(len(ring)):
                    with self.subTest(number=number, ring=ring, key=key), self.assertRaises(BadKey):
                        function(ring, key)
            self.assertRaises(BadRing, function, [0], -1)
        self.assertRaises(BadKey, moves_of, (0, 1), 2, None)
