"""Point 11: rings written as strings."""

import unittest

from keysfelt.errors import BadRing, InvalidText
from keysfelt.texts import read_ring, write_least, write_ring
from tests.helpers import NINE_KEYS, WRONG_RINGS, all_rings, small_rings, turned_and_flipped

SIGNS = "abcdefghi"
WRONG_SIGNS = [
    "j", "z", "A", "I", "0", "1", "8", " ", "\n", "\t", "\0", "`", "{", "_", "-", "\u00e4", "\u0430", "\uff41",
    "\u0301", "\U0001f511", "\ud800",
]


class ExamplesTest(unittest.TestCase):
    def test_examples_of_the_document(self):
        self.assertEqual([write_ring((2, 0, 1, 0)), write_least((2, 0, 1, 0))], ["caba", "abac"])
        self.assertEqual(read_ring("cab"), (2, 0, 1))
        with self.assertRaises(InvalidText) as caught:
            read_ring("abz")
        self.assertEqual(caught.exception.place, 2)


class WriteTest(unittest.TestCase):
    def test_one_key_of_each_shape(self):
        for shape, sign in enumerate(SIGNS):
            self.assertEqual([write_ring((shape,)), write_least((shape,))], [sign, sign])

    def test_nine_keys(self):
        self.assertEqual(write_ring((8, 7, 6, 5, 4, 3, 2, 1, 0)), "ihgfedcba")
        self.assertEqual(write_least((8, 7, 6, 5, 4, 3, 2, 1, 0)), "abcdefghi")
        self.assertEqual([write_ring((0,) * 9), write_least((8,) * 9)], ["a" * 9, "i" * 9])

    def test_many_rings(self):
        for ring in small_rings() + NINE_KEYS:
            text = "".join(SIGNS[shape] for shape in ring)
            self.assertEqual(write_ring(ring), text)
            self.assertEqual(write_least(ring), min("".join(row) for row in turned_and_flipped(text)))
            self.assertEqual(read_ring(write_ring(ring)), ring)

    def test_alike_rings_have_one_least_writing(self):
        for ring in NINE_KEYS:
            self.assertEqual(len({write_least(other) for other in turned_and_flipped(ring)}), 1)

    def test_wrong_rings(self):
        for ring in WRONG_RINGS:
            with self.subTest(ring=ring):
                self.assertRaises(BadRing, write_ring, ring)
                self.assertRaises(BadRing, write_least, ring)
        self.assertRaises(BadRing, write_ring, "ab")


class ReadTest(unittest.TestCase):
    def place_in(self, text):
        with self.assertRaises(InvalidText) as caught:
            read_ring(text)
        return caught.exception.place

    def test_all_short_texts(self):
        for row in all_rings(1, 9) + all_rings(2, 9) + all_rings(3, 4):
            self.assertEqual(read_ring("".join(SIGNS[shape] for shape in row)), row)

    def test_nine_signs(self):
        self.assertEqual(read_ring("abcdefghi"), (0, 1, 2, 3, 4, 5, 6, 7, 8))
        self.assertEqual(read_ring("iiiiiiiii"), (8,) * 9)

    def test_ten_signs(self):
        self.assertEqual([self.place_in("a" * 10), self.place_in("abcdefghia"), self.place_in("i" * 400)], [9, 9, 9])
        self.assertEqual([self.place_in("a" * 9 + "z"), self.place_in("abcdefghij"), self.place_in("a" * 9 + " ")],
                         [9, 9, 9])

    def test_empty_string(self):
        self.assertEqual(self.place_in(""), 0)

    def test_a_wrong_sign_at_each_place(self):
        for sign in WRONG_SIGNS:
            for place in range(9):
                with self.subTest(sign=sign, place=place):
                    self.assertEqual(self.place_in("a" * place + sign), place)
                    self.assertEqual(self.place_in("i" * place + sign + "a" * (8 - place)), place)
                    self.assertEqual(self.place_in("b" * place + sign + "a" * 20), place)

    def test_the_first_of_two_wrong_signs(self):
        self.assertEqual([self.place_in("aZbZ"), self.place_in("!!"), self.place_in("abcdefghZZ")], [1, 0, 8])

    def test_no_blanks_around_a_ring(self):
        self.assertEqual([self.place_in(" ab"), self.place_in("ab "), self.place_in("ab\n"), self.place_in("a b")],
                         [0, 2, 2, 1])
