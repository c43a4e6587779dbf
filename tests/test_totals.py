"""Point 14: plans that feel the fewest keys in the mean."""

import unittest
from functools import lru_cache
from itertools import product

from keysfelt.errors import BadAim, BadRing
from keysfelt.hands import Hand
from keysfelt.holds import least_felt
from keysfelt.plans import Feeling, depth_of, least_depth, plan
from keysfelt.totals import least_total, mean_plan, total_of
from tests.helpers import (
    DEEP_TUPLE, NINE_KEYS, NO_PLANS, WRONG_AIMS, WRONG_RINGS, ends_by_hand, holds_of, parts_of, row_of, small_rings,
    spoiled, told, window,
)

AIMS = ("key", "hold")


def total_by_hand(ring, branches):
    """Follow the branches from each hold, and add up the keys felt behind the first one."""
    return sum((len(path) - 1) * len(holds) for path, holds in ends_by_hand(ring, branches).items())


def slow_least_total(ring, aim):
    """The least total, by trying all sides for each set of holds."""
    never = 10 ** 6

    @lru_cache(None)
    def least(holds, left, right):
        if told(aim, holds):
            return 0
        if left + right + 1 == len(ring):
            return never
        return len(holds) + min(total(holds, left, right + 1), total(holds, left + 1, right))

    def total(holds, left, right):
        parts = parts_of(holds, lambda hold: window(ring, hold, left, right))
        return sum(least(part, left, right) for part in parts)

    found = total(holds_of(ring), 0, 0)
    return None if found >= never else found


def all_trees(ring, aim, holds, left, right):
    """All trees where these holds are left, those that feel on where the aim is known among them."""
    found = [()] if told(aim, holds) else []
    if left + right + 1 < len(ring):
        for side, more in (("right", (left, right + 1)), ("left", (left + 1, right))):
            felt = -1 if side == "right" else 0
            found += [(side, branches) for branches in all_branches(ring, aim, holds, more, felt)]
    return found


def all_branches(ring, aim, holds, sides, felt):
    """All branches where so many keys to both sides are felt, the last one at this place of them."""
    parts = {}
    for hold in holds:
        parts.setdefault(window(ring, hold, *sides)[felt], []).append(hold)
    trees = [[(shape, tree) for tree in all_trees(ring, aim, parts[shape], *sides)] for shape in sorted(parts)]
    return list(product(*trees))


def all_plans(ring, aim):
    return all_branches(ring, aim, holds_of(ring), (0, 0), 0)


class ExamplesTest(unittest.TestCase):
    def test_examples_of_the_document(self):
        ring = (0, 0, 1, 2)
        self.assertEqual(least_total(ring, "hold"), 10)
        self.assertEqual(total_of(ring, "hold", mean_plan(ring, "hold")), 10)
        self.assertEqual([least_total((0, 1), "key"), least_total((0, 1), "hold")], [0, None])


class TotalTest(unittest.TestCase):
    def test_a_plan_by_hand(self):
        # Two holds feel one key more at each of the three keys: six in all.
        right = ("right", ((1, ()), (2, ())))
        ends = ((1, ("left", ((0, ()), (2, ())))), (2, ("right", ((0, ()), (1, ())))))
        self.assertEqual(total_of((0, 1, 2), "hold", ((0, right),) + ends), 6)
        self.assertEqual(total_of((0, 1, 2), "key", ((0, ()),) + ends), 4)
        self.assertIsNone(total_of((0, 1, 2), "hold", ((0, ()),) + ends))

    def test_the_sum_is_over_holds_and_not_over_branches(self):
        # Both holds of key 0 feel the same 1, and each of them counts.
        self.assertEqual(total_of((0, 1), "key", ((0, ("left", ((1, ()),))), (1, ()))), 2)
        self.assertEqual(total_of((0, 1), "key", ((0, ("left", ((1, ()),))), (1, ("right", ((0, ()),))))), 4)

    def test_holds_that_feel_more_count_more(self):
        tree = ("right", ((1, ("right", ((2, ()),))), (2, ())))
        self.assertEqual(total_of((0, 1, 2), "key", ((0, tree), (1, ()), (2, ()))), 3)

    def test_all_plans_of_small_rings(self):
        for ring in ((4,), (0, 0), (0, 1), (0, 0, 1), (0, 1, 2)):
            for aim in AIMS:
                plans = all_plans(ring, aim)
                totals = [total_by_hand(ring, value) for value in plans]
                with self.subTest(ring=ring, aim=aim):
                    self.assertEqual([total_of(ring, aim, value) for value in plans], totals)
                    self.assertEqual(least_total(ring, aim), min(totals, default=None))
                    self.assertEqual(mean_plan(ring, aim) in plans, len(plans) > 0)
        self.assertEqual(len(all_plans((0, 1, 2), "key")), 19 ** 3)

    def test_plans_of_the_least_depth(self):
        for ring in small_rings() + NINE_KEYS:
            for aim in AIMS:
                value = plan(ring, aim)
                expected = None if value is None else total_by_hand(ring, value)
                self.assertEqual(total_of(ring, aim, value), expected)

    def test_nothing_is_felt_when_all_keys_were_felt(self):
        self.assertIsNone(total_of((5,), "key", ((5, ("right", ())),)))
        self.assertIsNone(total_of((5,), "hold", ((5, ("right", ())),)))
        self.assertIsNone(total_of((5,), "key", ((5, ("right", ((5, ()),))),)))
        self.assertIsNone(total_of((0, 1), "hold", ((0, ("left", ((1, ("right", ())),))), (1, ("left", ())))))

    def test_values_that_are_no_plans(self):
        objects = [BadRing(), Feeling((0,), "key"), Hand((0,), 0), ((0, Hand((0,), 0)),), ((Hand((0,), 0), ()),)]
        for ring in ((0,), (0, 1), (0, 0, 1, 2), (0, 1, 2) * 3):
            for aim in AIMS:
                for value in NO_PLANS + objects:
                    with self.subTest(ring=ring, aim=aim, value=value):
                        self.assertIsNone(total_of(ring, aim, value))

    def test_a_plan_for_another_ring_or_aim(self):
        value = ((0, ()), (1, ()), (2, ()))
        self.assertEqual(total_of((0, 1, 2), "key", value), 0)
        self.assertIsNone(total_of((0, 1, 2), "hold", value))
        self.assertIsNone(total_of((0, 1), "key", value))
        self.assertIsNone(total_of((0, 1, 3), "key", value))
        self.assertIsNone(total_of((0, 0, 1, 2), "key", value))

    def test_spoiled_plans(self):
        for ring, aim in (((0,), "key"), ((0, 1), "key"), ((0, 0, 1, 2), "hold"), ((0, 1, 0, 0, 1, 1, 0, 1, 2), "key")):
            for value in spoiled(mean_plan(ring, aim)):
                with self.subTest(ring=ring, aim=aim, value=value):
                    self.assertIsNone(total_of(ring, aim, value))

    def test_the_value_is_not_changed(self):
        value = [[0, ["right", [[1, []]]]], {"a": [1]}]
        self.assertIsNone(total_of((0, 1), "key", value))
        self.assertEqual(value, [[0, ["right", [[1, []]]]], {"a": [1]}])
        self.assertIsNone(total_of((0, 1), "key", DEEP_TUPLE))


class LeastTest(unittest.TestCase):
    def test_ring_of_one_key(self):
        self.assertEqual([least_total((5,), "key"), mean_plan((5,), "key")], [0, ((5, ()),)])
        self.assertEqual(total_of((5,), "key", ((5, ()),)), 0)
        self.assertEqual([least_total((5,), "hold"), mean_plan((5,), "hold")], [None, None])
        self.assertIsNone(total_of((5,), "hold", ((5, ()),)))

    def test_rings_of_nine_keys(self):
        ring = (0, 1, 2, 3, 4, 5, 6, 7, 8)
        self.assertEqual([least_total(ring, "key"), least_total(ring, "hold")], [0, 18])
        self.assertEqual(mean_plan(ring, "key"), tuple((shape, ()) for shape in range(9)))
        ring = (0, 0, 0, 0, 0, 0, 0, 1, 2)
        self.assertEqual(least_total(ring, "key"), slow_least_total(ring, "key"))

    def test_rings_that_cannot_be_told(self):
        for ring in ((0, 0), (0, 1, 0, 1), (0, 1, 2) * 3, (0,) * 9, (0, 1, 1)):
            with self.subTest(ring=ring):
                self.assertEqual([least_total(ring, "key"), mean_plan(ring, "key")], [None, None])
                self.assertIsNone(total_of(ring, "key", mean_plan(ring, "key")))

    def test_the_least_depth_is_not_enough(self):
        # Two plans can feel as many keys at worst, and one of them fewer in the mean.
        ring = (0, 0, 1, 0, 1, 1)
        self.assertEqual(least_total(ring, "key"), 32)
        self.assertEqual(least_depth(ring, "key"), 3)
        self.assertGreaterEqual(total_of(ring, "key", plan(ring, "key")), 32)
        self.assertEqual(slow_least_total(ring, "key"), 32)

    def test_many_rings(self):
        for ring in small_rings() + NINE_KEYS + [(0, 0, 0, 1, 0, 0, 2), (0, 0, 1, 0, 1, 0, 1, 1)]:
            for aim in AIMS:
                with self.subTest(ring=ring, aim=aim):
                    least = slow_least_total(ring, aim)
                    self.assertEqual(least is None, least_felt(ring, aim) is None)
                    self.assertEqual(least_total(ring, aim), least)
                    value = mean_plan(ring, aim)
                    self.assertEqual(total_of(ring, aim, value), least)
                    self.assertEqual(mean_plan(ring, aim), value)
                    if least is not None:
                        self.assertEqual(total_by_hand(ring, value), least)
                        self.assertGreaterEqual(depth_of(ring, aim, value), least_depth(ring, aim))
                        ends = ends_by_hand(ring, value).values()
                        self.assertTrue(all(told(aim, holds) for holds in ends))

    def test_turned_rings_have_the_same_total(self):
        ring = (0, 1, 0, 0, 1, 1, 0, 1, 2)
        for aim in AIMS:
            totals = {least_total(row_of(ring, hold, 9), aim) for hold in holds_of(ring)}
            self.assertEqual(totals, {slow_least_total(ring, aim)})


class WrongArgumentsTest(unittest.TestCase):
    def test_wrong_arguments(self):
        calls = [least_total, mean_plan, lambda ring, aim: total_of(ring, aim, ((0, ()),))]
        for number, function in enumerate(calls):
            for ring in WRONG_RINGS:
                with self.subTest(number=number, ring=ring), self.assertRaises(BadRing):
                    function(ring, "key")
            for aim in WRONG_AIMS:
                with self.subTest(number=number, aim=aim), self.assertRaises(BadAim):
                    function((0, 1), aim)

    def test_the_first_wrong_argument_is_told(self):
        for function in (least_total, mean_plan):
            self.assertRaises(BadRing, function, [0], "side")
        self.assertRaises(BadRing, total_of, (9,), "side", None)
        self.assertRaises(BadAim, total_of, (0, 1), True, None)
