"""Point 10: a hand that feels its way round a ring."""

import unittest

from keysfelt.errors import BadRing, BadShape, BadSide, Full
from keysfelt.hands import Hand
from tests.helpers import (
    ANY_VALUES, NINE_KEYS, WRONG_RINGS, all_rings, are_alike, holds_of, row_of, turned_and_flipped, window,
)

SIDES = ("right", "left")
WRONG_SIDES = ANY_VALUES + [
    0, 1, -1, "Right", "LEFT", "r", "l", "righ", "lefts", " left", "right\n", "up", ("right",), ["left"], {"right": 1},
]
WRONG_SHAPES = ANY_VALUES + [-1, 9, 10, "0", "a", (0,), [0], {0: 0}]


def stand(hand):
    """All that can be seen of a hand."""
    return (hand.holds, hand.left, hand.right, len(hand))


def slow_holds(ring, steps):
    """The holds by which these steps (side, shape) are felt behind the first one."""
    right = [shape for side, shape in steps if side == "right"]
    left = [shape for side, shape in steps if side == "left"]
    row = tuple(left[::-1] + [shape for side, shape in steps if side == "first"] + right)
    return [hold for hold in holds_of(ring) if window(ring, hold, len(left), len(right)) == row]


def keys_of(holds):
    return sorted({key for key, _ in holds})


class ExamplesTest(unittest.TestCase):
    def test_examples_of_the_document(self):
        hand = Hand((0, 0, 1, 2), 0)
        self.assertEqual(hand.holds, [(0, -1), (0, 1), (1, -1), (1, 1)])
        self.assertEqual([hand.feel("right", 0), hand.feel("left", 2)], [[0, 1], [0]])
        self.assertEqual([hand.holds, hand.left, hand.right, hand.undo(), len(hand)], [[(0, 1)], 1, 1, True, 2])
        self.assertRaises(BadShape, hand.feel, "left", 0)


class FeelTest(unittest.TestCase):
    def test_the_first_key(self):
        hand = Hand((0, 1, 0, 2), 0)
        self.assertEqual(stand(hand), ([(0, -1), (0, 1), (2, -1), (2, 1)], 0, 0, 1))
        self.assertEqual(stand(Hand((0, 1, 0, 2), 2)), ([(3, -1), (3, 1)], 0, 0, 1))

    def test_each_side_is_felt_on_from_what_was_felt(self):
        hand = Hand((0, 1, 2, 3, 4), 0)
        self.assertEqual([hand.feel("right", 1), hand.feel("right", 2), hand.feel("left", 4)], [[0], [0], [0]])
        self.assertEqual(stand(hand), ([(0, 1)], 1, 2, 4))
        self.assertRaises(BadShape, hand.feel, "left", 4)
        self.assertEqual(hand.feel("left", 3), [0])
        self.assertEqual(stand(hand), ([(0, 1)], 2, 2, 5))

    def test_both_holds_of_one_key_are_one_key(self):
        hand = Hand((0, 1, 0, 2, 2), 2)
        self.assertEqual([hand.feel("right", 2), hand.holds], [[3, 4], [(3, 1), (4, -1)]])
        hand = Hand((0, 0, 1, 0, 0), 1)
        self.assertEqual([hand.feel("left", 0), hand.holds], [[2], [(2, -1), (2, 1)]])

    def test_ring_of_one_key(self):
        hand = Hand((5,), 5)
        self.assertEqual(stand(hand), ([(0, -1), (0, 1)], 0, 0, 1))
        for side in SIDES:
            self.assertRaises(Full, hand.feel, side, 5)
        self.assertIs(hand.undo(), False)
        self.assertEqual(stand(hand), ([(0, -1), (0, 1)], 0, 0, 1))

    def test_ring_of_nine_keys(self):
        hand = Hand((0,) * 9, 0)
        for many in range(8):
            self.assertEqual(hand.feel(SIDES[many % 2], 0), list(range(9)))
        self.assertEqual(stand(hand), (holds_of((0,) * 9), 4, 4, 9))
        self.assertRaises(Full, hand.feel, "left", 0)
        hand = Hand((0, 1, 2, 3, 4, 5, 6, 7, 8), 8)
        self.assertEqual([hand.feel("left", 0), hand.holds], [[8], [(8, -1)]])

    def test_a_ring_that_goes_round_more_than_once(self):
        hand = Hand((0, 1, 2) * 3, 1)
        self.assertEqual([hand.feel("right", 2), hand.feel("left", 0)], [[1, 4, 7], [1, 4, 7]])
        self.assertEqual(hand.holds, [(1, 1), (4, 1), (7, 1)])

    def test_a_ring_that_is_the_same_both_ways(self):
        hand = Hand((0, 1), 1)
        self.assertEqual([hand.feel("left", 0), hand.holds], [[1], [(1, -1), (1, 1)]])

    def walk(self, ring, hand, steps):
        """Feel all that can be felt, and take it back again."""
        before = stand(hand)
        self.assertEqual(before[0], slow_holds(ring, steps))
        self.assertEqual(len(hand), len(steps))
        for side in SIDES:
            for shape in range(4):
                more = steps + [(side, shape)]
                holds = slow_holds(ring, more)
                if len(steps) == len(ring):
                    self.assertRaises(Full, hand.feel, side, shape)
                elif not holds:
                    self.assertRaises(BadShape, hand.feel, side, shape)
                else:
                    self.assertEqual(hand.feel(side, shape), keys_of(holds))
                    self.walk(ring, hand, more)
                    self.assertIs(hand.undo(), True)
                self.assertEqual(stand(hand), before)

    def test_all_that_can_be_felt_on_small_rings(self):
        for ring in all_rings(1, 3) + all_rings(2, 3) + all_rings(3, 3) + all_rings(4, 3) + all_rings(5, 2):
            for shape in range(3):
                with self.subTest(ring=ring, shape=shape):
                    if shape in ring:
                        self.walk(ring, Hand(ring, shape), [("first", shape)])
                    else:
                        self.assertRaises(BadShape, Hand, ring, shape)

    def test_all_felt_to_one_side_leaves_holds_that_are_alike(self):
        for ring in NINE_KEYS:
            for hold in holds_of(ring):
                for side, way in (("right", 1), ("left", -1)):
                    row = row_of(ring, (hold[0], hold[1] * way), len(ring))
                    hand = Hand(ring, row[0])
                    found = [hand.feel(side, shape) for shape in row[1:]]
                    like = [other for other in holds_of(ring) if are_alike(ring, hold, other)]
                    self.assertEqual([hand.holds, found[-1]], [like, keys_of(like)])
                    self.assertRaises(Full, hand.feel, side, row[0])


class ErrorsTest(unittest.TestCase):
    def test_wrong_rings(self):
        for ring in WRONG_RINGS:
            with self.subTest(ring=ring):
                self.assertRaises(BadRing, Hand, ring, 0)
                self.assertRaises(BadRing, Hand, ring, "0")

    def test_wrong_first_shapes(self):
        for ring in ((0,), (0, 1), (8, 0), (0,) * 9):
            for shape in WRONG_SHAPES + [7]:
                with self.subTest(ring=ring, shape=shape):
                    self.assertRaises(BadShape, Hand, ring, shape)

    def errors_of(self, hand, error, sides, shapes):
        before = stand(hand)
        for side in sides:
            for shape in shapes:
                with self.subTest(side=side, shape=shape):
                    self.assertRaises(error, hand.feel, side, shape)
                    self.assertEqual(stand(hand), before)

    def test_wrong_sides_and_shapes(self):
        one = Hand((0, 0, 1, 1), 0)
        more = one.copy()
        more.feel("right", 0)
        for hand in (one, more):
            self.errors_of(hand, BadSide, WRONG_SIDES, [0, 1, 2, None, "0", [0]])
            self.errors_of(hand, BadShape, SIDES, WRONG_SHAPES + [2, 8])
        # Shapes of the ring that cannot be felt here: no third 0 stands beside the two.
        self.errors_of(more, BadShape, SIDES, [0])

    def test_true_is_no_shape_where_one_is(self):
        hand = Hand((1, 0, 0), 1)
        self.errors_of(hand, BadShape, SIDES, [False, True])
        self.assertEqual(hand.feel("right", 0), [0])
        self.assertRaises(BadShape, Hand, (1, 0), True)
        self.assertRaises(BadShape, Hand, (1, 0), False)

    def test_the_side_is_looked_at_then_what_was_felt_and_then_the_shape(self):
        hand = Hand((0, 1), 0)
        hand.feel("left", 1)
        self.errors_of(hand, BadSide, WRONG_SIDES, [0, 1, 9, True, None])
        self.errors_of(hand, Full, SIDES, [0, 1] + WRONG_SHAPES)
        self.assertEqual(stand(hand), ([(0, -1), (0, 1)], 1, 0, 2))

    def test_what_was_taken_back_is_felt_as_before(self):
        hand = Hand((0, 0, 1, 2), 0)
        hand.feel("right", 0)
        self.assertRaises(BadShape, hand.feel, "right", 0)
        self.assertIs(hand.undo(), True)
        self.assertEqual([hand.feel("left", 0), hand.feel("left", 2)], [[0, 1], [1]])
        self.assertEqual(stand(hand), ([(1, 1)], 2, 0, 3))


class UndoTest(unittest.TestCase):
    def test_the_first_key_is_never_taken_back(self):
        hand = Hand((0, 1, 2), 1)
        self.assertEqual([hand.undo(), hand.undo(), len(hand)], [False, False, 1])
        hand.feel("left", 2)
        self.assertEqual([hand.undo(), hand.undo(), stand(hand)], [True, False, ([(1, -1), (1, 1)], 0, 0, 1)])

    def test_the_last_key_is_taken_back_first(self):
        hand = Hand((0, 1, 2, 3), 0)
        hand.feel("right", 1)
        hand.feel("left", 3)
        hand.feel("right", 2)
        self.assertEqual((hand.undo(), hand.left, hand.right), (True, 1, 1))
        self.assertEqual((hand.undo(), hand.left, hand.right), (True, 0, 1))
        self.assertEqual((hand.undo(), hand.left, hand.right), (True, 0, 0))
        self.assertIs(hand.undo(), False)

    def test_a_full_hand_can_take_back_and_feel_again(self):
        hand = Hand((0, 1), 0)
        hand.feel("left", 1)
        self.assertRaises(Full, hand.feel, "left", 1)
        self.assertIs(hand.undo(), True)
        self.assertEqual([hand.feel("right", 1), hand.left, hand.right], [[0], 0, 1])


class CopyTest(unittest.TestCase):
    def full_hand(self):
        hand = Hand((0, 0, 1, 2), 0)
        hand.feel("right", 0)
        hand.feel("left", 2)
        return hand

    def test_a_copy_stands_as_its_original(self):
        for hand in (Hand((5,), 5), Hand((0, 1, 0, 2), 0), self.full_hand()):
            other = hand.copy()
            self.assertIsInstance(other, Hand)
            self.assertIsNot(other, hand)
            self.assertEqual(stand(other), stand(hand))

    def test_a_copy_can_take_back_the_same(self):
        hand = self.full_hand()
        other = hand.copy()
        while hand.undo():
            self.assertIs(other.undo(), True)
            self.assertEqual(stand(other), stand(hand))
        self.assertIs(other.undo(), False)

    def test_a_copy_does_not_change_its_original(self):
        hand = self.full_hand()
        before = stand(hand)
        other = hand.copy()
        other.feel("right", 1)
        self.assertEqual([stand(hand), len(other)], [before, 4])
        while other.undo():
            self.assertEqual(stand(hand), before)
        other.feel("left", 0)
        self.assertEqual(stand(hand), before)

    def test_an_original_does_not_change_its_copy(self):
        hand = self.full_hand()
        before = stand(hand)
        other = hand.copy()
        again = other.copy()
        hand.feel("left", 1)
        self.assertEqual([stand(other), stand(again)], [before, before])
        while hand.undo():
            self.assertEqual([stand(other), stand(again)], [before, before])
        self.assertEqual(other.feel("left", 1), [0])
        self.assertEqual(stand(again), before)

    def test_errors_of_a_copy(self):
        hand = self.full_hand()
        before = stand(hand)
        other = hand.copy()
        self.assertRaises(BadShape, other.feel, "right", 0)
        self.assertRaises(BadSide, other.feel, "up", 0)
        other.feel("right", 1)
        self.assertRaises(Full, other.feel, "right", 1)
        self.assertRaises(BadShape, hand.feel, "right", 0)
        self.assertEqual(stand(hand), before)


class ListsTest(unittest.TestCase):
    def test_returned_lists_are_new(self):
        hand = Hand((0, 0, 1, 2), 0)
        hand.holds.clear()
        hand.holds.append("more")
        self.assertEqual(hand.holds, [(0, -1), (0, 1), (1, -1), (1, 1)])
        found = hand.feel("right", 0)
        holds = hand.holds
        found.clear()
        holds.clear()
        self.assertEqual(hand.holds, [(0, 1), (1, -1)])
        hand.undo()
        self.assertEqual(hand.feel("right", 0), [0, 1])

    def test_lists_that_were_returned_are_not_changed(self):
        hand = Hand((0, 0, 1, 2), 0)
        holds = hand.holds
        found = hand.feel("right", 0)
        hand.feel("left", 2)
        hand.undo()
        self.assertEqual([holds, found], [[(0, -1), (0, 1), (1, -1), (1, 1)], [0, 1]])

    def test_equal_hands_do_not_change_each_other(self):
        one = Hand((0, 1, 2), 0)
        other = Hand((0, 1, 2), 0)
        one.feel("right", 1)
        self.assertEqual([len(one), len(other), other.holds], [2, 1, [(0, -1), (0, 1)]])

    def test_all_turned_rings_are_felt_alike(self):
        for ring in turned_and_flipped((0, 1, 0, 2, 3)):
            hand = Hand(ring, 0)
            self.assertEqual([len(hand.holds), len(hand.feel("right", 1)), len(hand.feel("left", 2))], [4, 2, 1])

    def test_a_hand_is_equal_to_itself_alone(self):
        hand = Hand((0, 1), 0)
        self.assertEqual(hand, hand)
        for value in ANY_VALUES + [(0, 1), hand.holds, 1]:
            self.assertFalse(hand == value)
