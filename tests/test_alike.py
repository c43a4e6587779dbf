"""Points 7 to 9: rings that are alike, keys lost and put in, and pieces that were felt."""

import unittest
from itertools import permutations
from math import gcd

from keysfelt import alike
from keysfelt.errors import BadCounts, BadNumber, BadPieces, BadRing, BadSeen, TooMany
from tests.helpers import (
    NINE_KEYS, WRONG_COUNTS, WRONG_PIECES, WRONG_RINGS, all_rings, counts_up_to, holds_of, row_of, small_rings,
    turned_and_flipped, wrong_numbers, wrong_rows,
)


def rings_of(counts):
    """All rows with so many keys of each shape."""
    shapes = [shape for shape, count in enumerate(counts) for _ in range(count)]
    return set(permutations(shapes))


def slow_all_rings(counts):
    return sorted({min(turned_and_flipped(row)) for row in rings_of(counts)})


def loops(order):
    """How long the loops are in which an order of the keys takes each of them to the next one."""
    left = set(range(len(order)))
    found = []
    while left:
        key = left.pop()
        many = 1
        while order[key] in left:
            key = order[key]
            left.remove(key)
            many += 1
        found.append(many)
    return found


def kept(counts, sizes):
    """In how many ways the loops of these sizes take shapes, so that there are so many keys of each."""
    ways = {tuple(counts): 1}
    for size in sizes:
        found = {}
        for left, number in ways.items():
            for shape, count in enumerate(left):
                if count >= size:
                    rest = left[:shape] + (count - size,) + left[shape + 1:]
                    found[rest] = found.get(rest, 0) + number
        ways = found
    return sum(ways.values())


def slow_how_many(counts):
    orders = turned_and_flipped(range(sum(counts)))
    total = sum(kept(counts, loops(order)) for order in orders)
    assert total % len(orders) == 0
    return total // len(orders)


def slow_lost(ring, seen):
    found = []
    for key in range(len(ring)):
        left = list(ring)
        del left[key]
        if tuple(seen) in turned_and_flipped(left):
            found.append(key)
    return found


def slow_put(ring, seen):
    found = []
    for key in range(len(ring)):
        for shape in range(9):
            more = list(ring)
            more.insert(key + 1, shape)
            if tuple(seen) in turned_and_flipped(more):
                found.append((key, shape))
    return found


def slow_rings_with(keys, shapes, pieces):
    found = set()
    for ring in all_rings(keys, shapes):
        if all(any(row_of(ring, hold, len(piece)) == piece for hold in holds_of(ring)) for piece in pieces):
            found.add(min(turned_and_flipped(ring)))
    return sorted(found)


class ExamplesTest(unittest.TestCase):
    def test_examples_of_the_document(self):
        self.assertIs(alike.are_alike((0, 1, 2), (2, 1, 0)), True)
        self.assertEqual(alike.least_ring((2, 0, 1, 0)), (0, 1, 0, 2))
        self.assertEqual([alike.how_many((2, 2)), alike.all_rings((2, 2))], [2, [(0, 0, 1, 1), (0, 1, 0, 1)]])
        self.assertGreater(alike.how_many((20, 20)), 10 ** 9)
        self.assertEqual(alike.lost_from((0, 1, 0, 2), (2, 1, 0)), [0, 2])
        self.assertEqual(alike.put_into((0, 1), (1, 1, 0)), [(0, 1), (1, 1)])
        self.assertEqual(alike.rings_with(3, 2, ((0, 0, 1), (1, 0))), [(0, 0, 1)])


class AlikeTest(unittest.TestCase):
    def test_turned_and_flipped(self):
        for ring in small_rings() + NINE_KEYS:
            for other in turned_and_flipped(ring):
                self.assertIs(alike.are_alike(ring, other), True)
            self.assertEqual(alike.least_ring(ring), min(turned_and_flipped(ring)))

    def test_unlike_rings(self):
        self.assertIs(alike.are_alike((0, 1, 2, 3), (0, 2, 1, 3)), False)
        self.assertIs(alike.are_alike((0, 1), (0, 1, 0, 1)), False)
        self.assertIs(alike.are_alike((0,), (1,)), False)
        self.assertIs(alike.are_alike((0, 0, 1), (0, 1, 1)), False)
        self.assertIs(alike.are_alike((0, 1, 0, 0, 1, 1), (0, 1, 1, 0, 0, 1)), True)

    def test_all_pairs_of_small_rings(self):
        rings = all_rings(2, 3) + all_rings(3, 3) + all_rings(4, 2) + all_rings(5, 2)
        for one in rings:
            for other in rings:
                self.assertIs(alike.are_alike(one, other), other in turned_and_flipped(one))

    def test_rings_of_one_key(self):
        self.assertEqual([alike.least_ring((7,)), alike.are_alike((7,), (7,))], [(7,), True])

    def test_nine_keys(self):
        self.assertEqual(alike.least_ring((8, 7, 6, 5, 4, 3, 2, 1, 0)), (0, 1, 2, 3, 4, 5, 6, 7, 8))
        self.assertEqual(alike.least_ring((3, 1, 0, 0, 2, 0, 1, 0, 0)), (0, 0, 1, 0, 2, 0, 0, 1, 3))

    def test_wrong_rings(self):
        for ring in WRONG_RINGS:
            with self.subTest(ring=ring):
                self.assertRaises(BadRing, alike.least_ring, ring)
                self.assertRaises(BadRing, alike.are_alike, ring, (0, 1))
                self.assertRaises(BadRing, alike.are_alike, (0, 1), ring)


class HowManyTest(unittest.TestCase):
    def test_one_key_and_one_shape(self):
        self.assertEqual([alike.how_many((count,)) for count in (1, 2, 3, 39, 40)], [1] * 5)
        self.assertEqual(alike.how_many((0, 0, 0, 0, 0, 0, 0, 0, 1)), 1)

    def test_all_of_small_numbers(self):
        for counts in counts_up_to(9, 2) + counts_up_to(6, 3):
            with self.subTest(counts=counts):
                self.assertEqual(alike.how_many(counts), slow_how_many(counts))

    def test_counted_one_by_one(self):
        for counts in counts_up_to(7, 3):
            with self.subTest(counts=counts):
                self.assertEqual(alike.how_many(counts), len(slow_all_rings(counts)))

    def test_keys_all_of_unlike_shapes(self):
        self.assertEqual([alike.how_many((1,) * keys) for keys in range(1, 10)],
                         [1, 1, 1, 3, 12, 60, 360, 2520, 20160])

    def test_great_numbers(self):
        for counts in ((20, 20), (19, 21), (13, 13, 13), (13, 14, 13), (10, 10, 20), (8, 8, 8, 16), (39, 1), (38, 2)):
            with self.subTest(counts=counts):
                self.assertEqual(alike.how_many(counts), slow_how_many(counts))
        self.assertEqual(alike.how_many((20, 20)), 1723176308)
        self.assertEqual(alike.how_many((4, 4, 4, 4, 4, 5, 5, 5, 5)), 6176947191078998327073640560000)

    def test_all_rings_of_forty_keys_with_two_shapes(self):
        # The sum over all numbers of keys of each shape is known without them: A000029.
        turns = sum(2 ** gcd(40, turn) for turn in range(40))
        flips = 20 * 2 ** 20 + 20 * 2 ** 21
        self.assertEqual(sum(alike.how_many((many, 40 - many)) for many in range(41)), (turns + flips) // 80)

    def test_shapes_that_no_key_has_do_not_count(self):
        self.assertEqual(alike.how_many((0, 3, 0, 4, 0, 2, 0, 0, 0)), alike.how_many((3, 4, 2)))

    def test_wrong_counts(self):
        for counts in WRONG_COUNTS:
            with self.subTest(counts=counts):
                self.assertRaises(BadCounts, alike.how_many, counts)
                self.assertRaises(BadCounts, alike.all_rings, counts)


class AllRingsTest(unittest.TestCase):
    def test_all_of_small_numbers(self):
        others = [(2, 2, 2, 2), (1, 2, 2, 3), (2, 1, 3, 2), (0, 5, 0, 3)]
        for counts in counts_up_to(8, 2) + counts_up_to(6, 3) + others:
            with self.subTest(counts=counts):
                self.assertEqual(alike.all_rings(counts), slow_all_rings(counts))

    def test_later_shapes(self):
        self.assertEqual(alike.all_rings((0, 2, 0, 0, 0, 0, 0, 0, 1)), [(1, 1, 8)])
        self.assertEqual(alike.all_rings((0, 0, 8)), [(2,) * 8])

    def test_eight_keys_of_unlike_shapes(self):
        rings = alike.all_rings((1,) * 8)
        self.assertEqual([len(rings), rings[0]], [2520, (0, 1, 2, 3, 4, 5, 6, 7)])
        self.assertEqual(rings, sorted(rings))

    def test_too_many(self):
        for counts in ((9,), (1,) * 9, (4, 5), (40,), (0, 0, 9), (20, 20)):
            with self.subTest(counts=counts):
                self.assertRaises(TooMany, alike.all_rings, counts)
                self.assertGreater(alike.how_many(counts), 0)

    def test_returned_lists_are_new(self):
        alike.all_rings((2, 2)).clear()
        self.assertEqual(len(alike.all_rings((2, 2))), 2)


class LostTest(unittest.TestCase):
    def test_what_is_felt_when_a_key_is_lost(self):
        for ring in all_rings(2, 3) + all_rings(3, 3) + all_rings(4, 2) + all_rings(5, 2) + NINE_KEYS:
            for key in range(len(ring)):
                for seen in turned_and_flipped(ring[:key] + ring[key + 1:]):
                    lost = alike.lost_from(ring, seen)
                    self.assertIn(key, lost)
                    self.assertEqual(lost, slow_lost(ring, seen))

    def test_all_that_can_be_felt(self):
        for ring in all_rings(1, 3) + all_rings(2, 3) + all_rings(3, 3) + all_rings(4, 3):
            for seen in all_rings(len(ring) - 1, 4):
                self.assertEqual(alike.lost_from(ring, seen), slow_lost(ring, seen))

    def test_edges(self):
        self.assertEqual(alike.lost_from((5,), ()), [0])
        self.assertEqual(alike.lost_from((0, 1), (8,)), [])
        self.assertEqual(alike.lost_from((0, 1), (1,)), [0])
        self.assertEqual(alike.lost_from((0,) * 9, (0,) * 8), [0, 1, 2, 3, 4, 5, 6, 7, 8])
        self.assertEqual(alike.lost_from((0, 1, 2, 3), (3, 2, 0)), [1])

    def test_wrong_arguments(self):
        for ring in WRONG_RINGS:
            with self.subTest(ring=ring):
                self.assertRaises(BadRing, alike.lost_from, ring, (0,))
        for ring in ((0,), (0, 0), (0, 0, 0), (0,) * 9):
            for seen in wrong_rows(len(ring) - 1, len(ring) - 1):
                with self.subTest(ring=ring, seen=seen):
                    self.assertRaises(BadSeen, alike.lost_from, ring, seen)
        self.assertRaises(BadSeen, alike.lost_from, (0,), (0,))
        self.assertRaises(BadSeen, alike.lost_from, (0, 1), ())
        self.assertRaises(BadRing, alike.lost_from, [0], [0])


class PutTest(unittest.TestCase):
    def test_what_is_felt_when_a_key_is_put_in(self):
        eight_keys = [ring[1:] for ring in NINE_KEYS[1:5]]
        for ring in all_rings(1, 3) + all_rings(2, 3) + all_rings(3, 2) + all_rings(4, 2) + eight_keys:
            for key in range(len(ring)):
                for shape in (0, 1, 8):
                    for seen in turned_and_flipped(ring[:key + 1] + (shape,) + ring[key + 1:])[::5]:
                        put = alike.put_into(ring, seen)
                        self.assertIn((key, shape), put)
                        self.assertEqual(put, slow_put(ring, seen))

    def test_all_that_can_be_felt(self):
        for ring in all_rings(1, 3) + all_rings(2, 3) + all_rings(3, 3):
            for seen in all_rings(len(ring) + 1, 3):
                self.assertEqual(alike.put_into(ring, seen), slow_put(ring, seen))

    def test_edges(self):
        self.assertEqual(alike.put_into((5,), (8, 5)), [(0, 8)])
        self.assertEqual(alike.put_into((5,), (8, 8)), [])
        self.assertEqual(alike.put_into((0, 1, 2), (2, 3, 0, 1)), [(2, 3)])
        self.assertEqual(alike.put_into((0,) * 8, (0,) * 8 + (4,)), [(key, 4) for key in range(8)])

    def test_ring_of_nine_keys(self):
        for ring in NINE_KEYS[:3]:
            seen = turned_and_flipped(ring[:4] + (5,) + ring[4:])[13]
            self.assertEqual(alike.put_into(ring, seen), slow_put(ring, seen))
            self.assertIn((3, 5), alike.put_into(ring, seen))

    def test_only_one_shape_can_have_been_put_in(self):
        # It is the shape of which seen has one key more than the ring.
        for seen in all_rings(4, 3):
            self.assertLessEqual(len({shape for _, shape in alike.put_into((0, 1, 1), seen)}), 1)

    def test_wrong_arguments(self):
        for ring in WRONG_RINGS:
            with self.subTest(ring=ring):
                self.assertRaises(BadRing, alike.put_into, ring, (0, 0))
        for ring in ((0,), (0, 0), (0,) * 8, (0,) * 9):
            for seen in [()] + wrong_rows(len(ring) + 1, len(ring) + 1):
                with self.subTest(ring=ring, seen=seen):
                    self.assertRaises(BadSeen, alike.put_into, ring, seen)
        self.assertRaises(BadRing, alike.put_into, [0], [0, 0])


class PiecesTest(unittest.TestCase):
    def test_no_pieces_and_empty_ones(self):
        for keys in range(1, 7):
            for shapes in range(1, 4):
                rings = slow_rings_with(keys, shapes, ())
                for pieces in ((), ((),), ((),) * 8):
                    self.assertEqual(alike.rings_with(keys, shapes, pieces), rings)
        self.assertEqual(alike.rings_with(1, 3, ()), [(0,), (1,), (2,)])

    def test_one_piece(self):
        pieces = [piece for many in range(1, 6) for piece in all_rings(many, 2)]
        for keys in range(1, 6):
            for piece in pieces:
                with self.subTest(keys=keys, piece=piece):
                    self.assertEqual(alike.rings_with(keys, 2, (piece,)), slow_rings_with(keys, 2, (piece,)))

    def test_pieces_that_go_round_more_than_once(self):
        self.assertEqual(alike.rings_with(3, 3, ((0, 1, 2, 0, 1, 2, 0),)), [(0, 1, 2)])
        self.assertEqual(alike.rings_with(3, 3, ((2, 1, 0) * 4,)), [(0, 1, 2)])
        self.assertEqual(alike.rings_with(3, 3, ((0, 1, 2, 0, 1, 2, 1),)), [])
        self.assertEqual(alike.rings_with(4, 2, ((0, 1) * 6,)), [(0, 1, 0, 1)])
        self.assertEqual(alike.rings_with(1, 3, ((2,) * 12,)), [(2,)])
        self.assertEqual(alike.rings_with(6, 3, ((1, 0) * 6,)), [(0, 1, 0, 1, 0, 1)])

    def test_several_pieces(self):
        for keys in range(1, 7):
            for pieces in (
                ((0, 1), (1, 1)), ((0, 0, 1), (1, 0)), ((0, 1, 2), (2, 0, 1)), ((0, 2), (), (2, 1, 1), (0, 0)),
                ((0,), (1,), (2,), (0, 1), (1, 2), (2, 0), (0, 0), (1, 1)), ((0, 1, 0), (0, 2, 0)),
            ):
                with self.subTest(keys=keys, pieces=pieces):
                    self.assertEqual(alike.rings_with(keys, 3, pieces), slow_rings_with(keys, 3, pieces))

    def test_wrong_numbers(self):
        for keys in wrong_numbers(1, 6):
            with self.subTest(keys=keys):
                self.assertRaises(BadNumber, alike.rings_with, keys, 2, ((0,),))
        for shapes in wrong_numbers(1, 3):
            with self.subTest(shapes=shapes):
                self.assertRaises(BadNumber, alike.rings_with, 2, shapes, ((0,),))

    def test_wrong_pieces(self):
        for pieces in WRONG_PIECES:
            with self.subTest(pieces=pieces):
                self.assertRaises(BadPieces, alike.rings_with, 2, 2, pieces)
        self.assertRaises(BadPieces, alike.rings_with, 2, 1, ((0, 1),))
        self.assertRaises(BadPieces, alike.rings_with, 2, 3, ((3,),))

    def test_the_first_wrong_argument_is_told(self):
        self.assertRaises(BadNumber, alike.rings_with, 7, 2, [0])
        self.assertRaises(BadNumber, alike.rings_with, 2, 4, [0])

    def test_arguments_are_not_changed(self):
        pieces = [(0, 1)]
        self.assertRaises(BadPieces, alike.rings_with, 2, 2, pieces)
        self.assertEqual(pieces, [(0, 1)])
