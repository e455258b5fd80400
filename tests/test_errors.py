"""The errors of the interface's first section."""

import unittest

from rakedpapers import errors

WITHOUT = ["InvalidSize", "UnknownCell", "InvalidSign", "InvalidDeed", "InvalidCells", "InvalidNumber", "TooMany",
           "InvalidColours", "NoDrop"]
WITH = {"InvalidBath": "part", "InvalidRecipe": "index", "InvalidPapers": "index"}


class ErrorClasses(unittest.TestCase):
    def test_the_base_class_is_a_value_error(self):
        self.assertEqual(errors.BathError.__bases__, (ValueError,))

    def test_all_others_are_its_direct_subclasses(self):
        for name in WITHOUT + list(WITH):
            with self.subTest(name):
                self.assertEqual(getattr(errors, name).__bases__, (errors.BathError,))
                self.assertEqual(getattr(errors, name).__module__, "rakedpapers.errors")

    def test_attributes_are_set_when_the_error_is_created(self):
        self.assertEqual(errors.InvalidBath("width").part, "width")
        self.assertEqual(errors.InvalidRecipe(3).index, 3)
        self.assertEqual(errors.InvalidPapers(0).index, 0)

    def test_the_others_need_nothing(self):
        for name in WITHOUT:
            with self.subTest(name):
                self.assertIsInstance(getattr(errors, name)(), errors.BathError)
