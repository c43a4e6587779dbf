"""The errors of the interface."""

import unittest

from keysfelt import errors

PLAIN = [
    "BadRing", "BadHold", "BadNumber", "BadAim", "BadKey", "BadCounts", "TooMany", "BadSeen", "BadPieces",
    "BadShape", "BadSide", "Full",
]
WITH_FIELDS = [("BadRings", "index", 3), ("BadRings", "index", None), ("InvalidText", "place", 0)]


class ErrorsTest(unittest.TestCase):
    def test_base_class_is_a_value_error(self):
        self.assertEqual(errors.FeelError.__bases__, (ValueError,))

    def test_all_stand_directly_under_the_base_class(self):
        for name in PLAIN + ["BadRings", "InvalidText"]:
            with self.subTest(name=name):
                self.assertEqual(getattr(errors, name).__bases__, (errors.FeelError,))
                self.assertEqual(getattr(errors, name).__module__, "keysfelt.errors")

    def test_most_take_nothing(self):
        for name in PLAIN + ["FeelError"]:
            with self.subTest(name=name):
                with self.assertRaises(errors.FeelError):
                    raise getattr(errors, name)()

    def test_fields(self):
        for name, field, value in WITH_FIELDS:
            with self.subTest(name=name, value=value):
                error = getattr(errors, name)(value)
                self.assertEqual(vars(error), {field: value})
                self.assertIsInstance(error, errors.FeelError)

    def test_fields_are_needed(self):
        for name in ("BadRings", "InvalidText"):
            with self.subTest(name=name):
                with self.assertRaises(TypeError):
                    getattr(errors, name)()
