"""Point 15: rings that are told soonest."""

import unittest
from itertools import permutations, product

from keysfelt.best import best_rings, told_rings
from keysfelt.errors import BadAim, BadCounts, BadNumber, TooMany
from tests.helpers import WRONG_AIMS, WRONG_COUNTS, all_rings, counts_up_to, tells, turned_and_flipped, wrong_numbers

AIMS = ("key", "hold")


def least_of(rings):
    """The least rings of all."""
    return sorted({min(turned_and_flipped(ring)) for ring in rings})


def slow_least_felt(ring, aim):
    return next((many for many in range(11) if tells(ring, aim, many)), None)


def slow_best(counts, aim):
    shapes = [shape for shape, count in enumerate(counts) for _ in range(count)]
    found = {}
    for ring in least_of(set(permutations(shapes))):
        found.setdefault(slow_least_felt(ring, aim), []).append(ring)
    found.pop(None, None)
    return (min(found), found[min(found)]) if found else None


def slow_told(keys, shapes, many, aim):
    return [ring for ring in least_of(all_rings(keys, shapes)) if tells(ring, aim, many)]


class ExamplesTest(unittest.TestCase):
    def test_examples_of_the_document(self):
        self.assertEqual(best_rings((2, 1, 1), "hold"), (3, [(0, 0, 1, 2)]))
        self.assertIsNone(best_rings((3,), "key"))
        self.assertEqual(told_rings(3, 3, 1, "key"), [(0, 1, 2)])
        self.assertEqual(told_rings(3, 2, 9, "hold"), [])


class BestTest(unittest.TestCase):
    def test_one_key(self):
        self.assertEqual([best_rings((1,), "key"), best_rings((1,), "hold")], [(0, [(0,)]), None])
        self.assertEqual(best_rings((0, 0, 0, 0, 0, 0, 0, 0, 1), "key"), (0, [(8,)]))

    def test_keys_of_one_shape(self):
        for count in range(2, 9):
            for aim in AIMS:
                self.assertIsNone(best_rings((count,), aim))

    def test_all_of_small_numbers(self):
        for counts in counts_up_to(8, 2) + counts_up_to(6, 3) + [(0, 3, 0, 2), (1, 0, 1, 1, 0, 0, 0, 0, 1)]:
            for aim in AIMS:
                with self.subTest(counts=counts, aim=aim):
                    self.assertEqual(best_rings(counts, aim), slow_best(counts, aim))

    def test_rings_that_are_not_the_best_are_left_out(self):
        # Another ring with these keys is told by five of them, and the third one never.
        self.assertEqual(best_rings((4, 1, 1), "hold"), (4, [(0, 0, 0, 1, 0, 2)]))
        self.assertEqual(best_rings((3, 2, 1), "key"), (4, [(0, 0, 0, 1, 1, 2), (0, 0, 1, 0, 1, 2)]))

    def test_the_aim_counts(self):
        self.assertEqual([best_rings((1, 1), "key"), best_rings((1, 1), "hold")], [(1, [(0, 1)]), None])
        self.assertEqual([best_rings((1, 1, 1), aim) for aim in AIMS], [(1, [(0, 1, 2)]), (2, [(0, 1, 2)])])

    def test_eight_keys(self):
        least, rings = best_rings((1,) * 8, "hold")
        self.assertEqual([least, len(rings), rings[0]], [2, 2520, (0, 1, 2, 3, 4, 5, 6, 7)])
        self.assertEqual(rings, sorted(rings))
        self.assertEqual(best_rings((2, 2, 2, 2), "hold"), slow_best((2, 2, 2, 2), "hold"))

    def test_too_many(self):
        for counts in ((9,), (1,) * 9, (4, 5), (40,), (0, 0, 9), (20, 20)):
            for aim in ("key", "hold", "side", None):
                with self.subTest(counts=counts, aim=aim):
                    self.assertRaises(TooMany, best_rings, counts, aim)

    def test_returned_lists_are_new(self):
        best_rings((2, 1, 1), "hold")[1].clear()
        self.assertEqual(best_rings((2, 1, 1), "hold"), (3, [(0, 0, 1, 2)]))

    def test_wrong_arguments(self):
        for counts in WRONG_COUNTS:
            with self.subTest(counts=counts):
                self.assertRaises(BadCounts, best_rings, counts, "key")
                self.assertRaises(BadCounts, best_rings, counts, "side")
        for aim in WRONG_AIMS:
            with self.subTest(aim=aim):
                self.assertRaises(BadAim, best_rings, (2, 1), aim)
                self.assertRaises(BadAim, best_rings, (8,), aim)


class ToldTest(unittest.TestCase):
    def test_nothing_felt(self):
        for keys, shapes in product(range(1, 7), range(1, 4)):
            one_key = [(shape,) for shape in range(shapes)] if keys == 1 else []
            self.assertEqual(told_rings(keys, shapes, 0, "key"), one_key)
            self.assertEqual(told_rings(keys, shapes, 0, "hold"), [])

    def test_all_numbers(self):
        for keys, shapes in product(range(1, 7), range(1, 4)):
            for many, aim in product((1, 2, 3, 4, 5, 6, 20), AIMS):
                with self.subTest(keys=keys, shapes=shapes, many=many, aim=aim):
                    self.assertEqual(told_rings(keys, shapes, many, aim), slow_told(keys, shapes, many, aim))

    def test_more_keys_felt_than_the_ring_has(self):
        for keys, shapes in product(range(1, 7), range(1, 4)):
            for aim in AIMS:
                found = told_rings(keys, shapes, keys, aim)
                for many in range(keys, 21):
                    self.assertEqual(told_rings(keys, shapes, many, aim), found)

    def test_one_shape(self):
        for keys in range(2, 7):
            self.assertEqual(told_rings(keys, 1, 20, "key"), [])
        self.assertEqual([told_rings(1, 1, 20, "key"), told_rings(1, 1, 20, "hold")], [[(0,)], []])

    def test_some_rings(self):
        self.assertEqual(told_rings(2, 3, 1, "key"), [(0, 1), (0, 2), (1, 2)])
        self.assertEqual(told_rings(3, 3, 2, "hold"), [(0, 1, 2)])
        self.assertEqual(told_rings(3, 3, 1, "hold"), [])

    def test_returned_lists_are_new(self):
        told_rings(3, 3, 1, "key").append("more")
        self.assertEqual(told_rings(3, 3, 1, "key"), [(0, 1, 2)])

    def test_wrong_arguments(self):
        for keys in wrong_numbers(1, 6):
            with self.subTest(keys=keys):
                self.assertRaises(BadNumber, told_rings, keys, 2, 3, "key")
        for shapes in wrong_numbers(1, 3):
            with self.subTest(shapes=shapes):
                self.assertRaises(BadNumber, told_rings, 2, shapes, 3, "key")
        for many in wrong_numbers(0, 20):
            with self.subTest(many=many):
                self.assertRaises(BadNumber, told_rings, 2, 2, many, "key")
        for aim in WRONG_AIMS:
            with self.subTest(aim=aim):
                self.assertRaises(BadAim, told_rings, 2, 2, 3, aim)

    def test_the_first_wrong_argument_is_told(self):
        self.assertRaises(BadNumber, told_rings, 7, 2, 3, "side")
        self.assertRaises(BadNumber, told_rings, 2, 0, 3, "side")
        self.assertRaises(BadNumber, told_rings, 2, 2, 21, "side")
        self.assertRaises(BadNumber, told_rings, True, 2, 3, None)
