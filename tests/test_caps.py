"""Point 6: the fewest caps on keys."""

import unittest
from itertools import chain, combinations

from keysfelt.caps import caps_within, fewest_caps
from keysfelt.errors import BadAim, BadNumber, BadRing
from keysfelt.holds import least_felt
from tests.helpers import NINE_KEYS, WRONG_AIMS, WRONG_RINGS, all_rings, tells, wrong_numbers

AIMS = ("key", "hold")


def slow_caps(ring, aim, many):
    """All tuples of caps that tell the aim, of which the smallest are left."""
    keys = range(len(ring))
    tuples = chain.from_iterable(combinations(keys, size) for size in range(len(ring) + 1))
    found = []
    for caps in tuples:
        if tells([(shape, key in caps) for key, shape in enumerate(ring)], aim, many):
            found.append(caps)
    fewest = min(map(len, found), default=0)
    return sorted(caps for caps in found if len(caps) == fewest)


def some_rings():
    rings = all_rings(5, 2) + all_rings(6, 2)
    for keys in range(1, 5):
        rings += all_rings(keys, 3)
    return rings


class ExamplesTest(unittest.TestCase):
    def test_examples_of_the_document(self):
        self.assertEqual(fewest_caps((0, 0, 0), "key"), [])
        self.assertEqual(fewest_caps((0, 0), "hold"), [])
        self.assertEqual(fewest_caps((0, 1, 2), "hold"), [()])
        self.assertEqual(caps_within((0, 0, 1), "key", 2), [(0,), (1,)])
        found = fewest_caps((0, 0, 0, 0, 0, 0), "key")
        self.assertEqual([len(found), found[0]], [12, (0, 1, 3)])


class CapsTest(unittest.TestCase):
    def test_ring_of_one_key(self):
        self.assertEqual([fewest_caps((4,), "key"), fewest_caps((4,), "hold")], [[()], []])
        self.assertEqual([caps_within((4,), "key", 0), caps_within((4,), "hold", 20)], [[()], []])

    def test_rings_of_two_keys(self):
        self.assertEqual(fewest_caps((0, 0), "key"), [(0,), (1,)])
        self.assertEqual([fewest_caps((0, 1), "key"), fewest_caps((0, 1), "hold")], [[()], []])

    def test_a_cap_makes_no_key_like_one_of_another_shape(self):
        # A key with a cap is still felt by its shape: two caps of two shapes are not taken for each other.
        self.assertEqual(caps_within((0, 0, 1, 1), "key", 1), [(0, 2), (0, 3), (1, 2), (1, 3)])
        self.assertEqual(caps_within((0, 1, 0, 1), "key", 1), [(0, 1), (0, 3), (1, 2), (2, 3)])

    def test_two_caps_on_one_shape_are_alike(self):
        self.assertEqual(caps_within((0, 0, 0), "key", 1), [])

    def test_the_greatest_shape_can_have_a_cap(self):
        self.assertEqual(caps_within((8, 8), "key", 1), [(0,), (1,)])
        self.assertEqual(fewest_caps((8, 8, 0), "key"), slow_caps((8, 8, 0), "key", 9))

    def test_no_number_of_keys_tells_without_any_felt(self):
        for ring in ((0, 1), (0, 1, 2), (0,) * 9):
            for aim in AIMS:
                self.assertEqual(caps_within(ring, aim, 0), [])

    def test_more_keys_than_the_ring_has_help_no_more(self):
        for ring in NINE_KEYS + [(0, 1, 1), (0,) * 6]:
            for aim in AIMS:
                self.assertEqual(caps_within(ring, aim, 20), fewest_caps(ring, aim))

    def test_the_number_counts(self):
        ring = (0, 0, 0, 0, 0, 1, 2)
        self.assertEqual([least_felt(ring, "key"), caps_within(ring, "key", 6)], [6, [()]])
        self.assertEqual(caps_within(ring, "key", 5), slow_caps(ring, "key", 5))
        self.assertNotIn((), caps_within(ring, "key", 5))

    def test_many_rings(self):
        for ring in some_rings():
            for aim in AIMS:
                with self.subTest(ring=ring, aim=aim):
                    self.assertEqual(fewest_caps(ring, aim), slow_caps(ring, aim, len(ring) + 1))
                    for many in (1, 2, 3, 20):
                        self.assertEqual(caps_within(ring, aim, many), slow_caps(ring, aim, many))

    def test_seven_to_nine_keys(self):
        for ring in NINE_KEYS + [(0,) * 7, (0,) * 8, (0, 1) * 4]:
            for aim in AIMS:
                with self.subTest(ring=ring, aim=aim):
                    self.assertEqual(fewest_caps(ring, aim), slow_caps(ring, aim, 10))
                    self.assertEqual(caps_within(ring, aim, 4), slow_caps(ring, aim, 4))

    def test_returned_lists_are_new(self):
        fewest_caps((0, 0), "key").append("more")
        caps_within((0, 0), "key", 1).clear()
        self.assertEqual(fewest_caps((0, 0), "key"), [(0,), (1,)])
        self.assertEqual(caps_within((0, 0), "key", 1), [(0,), (1,)])


class WrongArgumentsTest(unittest.TestCase):
    def test_wrong_rings(self):
        for ring in WRONG_RINGS:
            with self.subTest(ring=ring):
                self.assertRaises(BadRing, fewest_caps, ring, "key")
                self.assertRaises(BadRing, caps_within, ring, "key", 3)

    def test_wrong_aims(self):
        for aim in WRONG_AIMS:
            with self.subTest(aim=aim):
                self.assertRaises(BadAim, fewest_caps, (0, 1), aim)
                self.assertRaises(BadAim, caps_within, (0, 1), aim, 3)

    def test_wrong_numbers(self):
        for many in wrong_numbers(0, 20):
            with self.subTest(many=many):
                self.assertRaises(BadNumber, caps_within, (0, 1), "key", many)

    def test_the_first_wrong_argument_is_told(self):
        self.assertRaises(BadRing, fewest_caps, [0], "side")
        self.assertRaises(BadRing, caps_within, (), "side", 21)
        self.assertRaises(BadAim, caps_within, (0,), "side", 21)
