"""Point 12: what is known though some keys were felt wrong."""

import unittest

from keysfelt.errors import BadAim, BadNumber, BadRing, BadSeen
from keysfelt.holds import least_felt
from keysfelt.wrong import holds_if_wrong, least_if_wrong
from tests.helpers import (
    NINE_KEYS, WRONG_AIMS, WRONG_RINGS, all_rings, are_alike, holds_of, must_differ, row_of, small_rings, wrong_numbers,
    wrong_rows,
)

AIMS = ("key", "hold")


def unlike(one, other):
    return sum(1 for shape, against in zip(one, other) if shape != against)


def slow_holds(ring, row, wrong):
    return [hold for hold in holds_of(ring) if unlike(row, row_of(ring, hold, len(row))) <= wrong]


def slow_least(ring, aim, wrong):
    """The greatest number for any two holds, key by key: None where they are alike."""
    most = 0
    for one in holds_of(ring):
        for other in holds_of(ring):
            if must_differ(aim, one, other):
                if are_alike(ring, one, other):
                    return None
                # At least one place of each round of nine keys or less differs: 9 * 21 keys are enough.
                rows = zip(row_of(ring, one, 200), row_of(ring, other, 200))
                places = [at + 1 for at, (shape, against) in enumerate(rows) if shape != against]
                most = max(most, places[2 * wrong])
    return most


class ExamplesTest(unittest.TestCase):
    def test_examples_of_the_document(self):
        self.assertEqual(holds_if_wrong((0, 1, 2), (0, 2), 0), [(0, -1)])
        self.assertEqual(holds_if_wrong((0, 1, 2), (0, 2), 1), [(0, -1), (0, 1), (1, 1)])
        self.assertEqual([least_if_wrong((0, 1, 2), "key", 0), least_if_wrong((0, 1, 2), "key", 1)], [1, 4])
        self.assertIsNone(least_if_wrong((0, 1), "hold", 1))
        self.assertEqual([least_if_wrong((0, 1), "key", 2), least_if_wrong((3,), "key", 9)], [5, 0])


class HoldsTest(unittest.TestCase):
    def test_nothing_felt(self):
        for wrong in (0, 1, 10):
            self.assertEqual(holds_if_wrong((0, 1, 2), (), wrong), holds_of((0, 1, 2)))

    def test_all_rows_of_small_rings(self):
        rows = [row for many in range(5) for row in all_rings(many, 3)]
        for ring in all_rings(1, 3) + all_rings(2, 3) + all_rings(3, 3) + all_rings(4, 2):
            for row in rows:
                for wrong in range(4):
                    self.assertEqual(holds_if_wrong(ring, row, wrong), slow_holds(ring, row, wrong))

    def test_shapes_that_the_ring_has_not(self):
        self.assertEqual(holds_if_wrong((0, 1, 2), (8,), 0), [])
        self.assertEqual(holds_if_wrong((0, 1, 2), (8, 1), 1), [(0, 1), (2, -1)])
        self.assertEqual(holds_if_wrong((0,), (1,) * 10, 10), [(0, -1), (0, 1)])
        self.assertEqual(holds_if_wrong((0,), (1,) * 11, 10), [])

    def test_long_rows(self):
        for ring in NINE_KEYS:
            for hold in ((0, 1), (4, -1), (8, 1)):
                row = list(row_of(ring, hold, 40))
                for place in (0, 3, 9, 10, 17, 20, 25, 30, 38, 39):
                    row[place] = (row[place] + 1) % 9
                for wrong in (0, 5, 9, 10):
                    self.assertEqual(holds_if_wrong(ring, tuple(row), wrong), slow_holds(ring, row, wrong))
                self.assertIn(hold, holds_if_wrong(ring, tuple(row), 10))
                self.assertNotIn(hold, holds_if_wrong(ring, tuple(row), 9))

    def test_returned_lists_are_new(self):
        holds_if_wrong((0, 1), (0,), 0).clear()
        self.assertEqual(holds_if_wrong((0, 1), (0,), 0), [(0, -1), (0, 1)])

    def test_wrong_arguments(self):
        for ring in WRONG_RINGS:
            with self.subTest(ring=ring):
                self.assertRaises(BadRing, holds_if_wrong, ring, (0,), 0)
        for row in wrong_rows(0, 40):
            with self.subTest(row=row):
                self.assertRaises(BadSeen, holds_if_wrong, (0, 1), row, 0)
        for wrong in wrong_numbers(0, 10):
            with self.subTest(wrong=wrong):
                self.assertRaises(BadNumber, holds_if_wrong, (0, 1), (0,), wrong)

    def test_the_first_wrong_argument_is_told(self):
        self.assertRaises(BadRing, holds_if_wrong, [0], [0], 11)
        self.assertRaises(BadSeen, holds_if_wrong, (0,), (0, 9), 11)


class LeastTest(unittest.TestCase):
    def test_many_rings(self):
        for ring in small_rings():
            for aim in AIMS:
                for wrong in (0, 1, 3):
                    with self.subTest(ring=ring, aim=aim, wrong=wrong):
                        self.assertEqual(least_if_wrong(ring, aim, wrong), slow_least(ring, aim, wrong))

    def test_nine_keys(self):
        for ring in NINE_KEYS:
            for aim in AIMS:
                for wrong in range(11):
                    with self.subTest(ring=ring, aim=aim, wrong=wrong):
                        self.assertEqual(least_if_wrong(ring, aim, wrong), slow_least(ring, aim, wrong))

    def test_nothing_felt_wrong(self):
        for ring in small_rings() + NINE_KEYS:
            for aim in AIMS:
                self.assertEqual(least_if_wrong(ring, aim, 0), least_felt(ring, aim))

    def test_more_keys_than_forty(self):
        # Two holds that differ at two places of each round need ten rounds and one place more.
        self.assertEqual(least_if_wrong((0,) * 8 + (1,), "key", 10), None)
        self.assertEqual(least_if_wrong((0,) * 7 + (1, 2), "hold", 10), slow_least((0,) * 7 + (1, 2), "hold", 10))
        self.assertGreater(least_if_wrong((0,) * 7 + (1, 2), "hold", 10), 90)

    def test_one_key(self):
        self.assertEqual([least_if_wrong((3,), "key", 10), least_if_wrong((3,), "hold", 0)], [0, None])

    def test_wrong_arguments(self):
        for ring in WRONG_RINGS:
            with self.subTest(ring=ring):
                self.assertRaises(BadRing, least_if_wrong, ring, "key", 0)
        for aim in WRONG_AIMS:
            with self.subTest(aim=aim):
                self.assertRaises(BadAim, least_if_wrong, (0, 1), aim, 0)
        for wrong in wrong_numbers(0, 10):
            with self.subTest(wrong=wrong):
                self.assertRaises(BadNumber, least_if_wrong, (0, 1), "key", wrong)

    def test_the_first_wrong_argument_is_told(self):
        self.assertRaises(BadRing, least_if_wrong, (), "side", 11)
        self.assertRaises(BadAim, least_if_wrong, (0,), "side", 11)
        self.assertRaises(BadNumber, least_if_wrong, (0,), "hold", 11)
