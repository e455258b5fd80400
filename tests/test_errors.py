"""The errors of both of the interface's sections."""

import unittest

from rakedpapers import errors

WITHOUT = ["InvalidSize", "UnknownCell", "InvalidSign", "InvalidDeed", "InvalidCells", "InvalidNumber", "TooMany",
           "InvalidColours", "NoDrop", "UnlikeSizes", "InvalidText", "InvalidName", "UnknownKept", "Clash", "TooLong"]
WITH = {
    "InvalidBath": ("part",), "InvalidRecipe": ("index",), "InvalidPapers": ("index",),
    "InvalidOperation": ("index",), "InvalidLine": ("row", "word"), "DecodeError": ("offset",),
    "ScriptError": ("row",), "ExecutionFailed": ("row",),
}


class ErrorClasses(unittest.TestCase):
    def test_the_base_class_is_a_value_error(self):
        self.assertEqual(errors.BathError.__bases__, (ValueError,))

    def test_all_others_are_its_direct_subclasses(self):
        for name in WITHOUT + list(WITH):
            with self.subTest(name):
                self.assertEqual(getattr(errors, name).__bases__, (errors.BathError,))
                self.assertEqual(getattr(errors, name).__module__, "rakedpapers.errors")

    def test_attributes_are_set_when_the_error_is_created(self):
        self.assertEqual(errors.InvalidBath("width").part, "width")
        for name, attributes in WITH.items():
            values = list(range(3, 3 + len(attributes)))
            with self.subTest(name):
                error = getattr(errors, name)(*values)
                self.assertEqual(vars(error), dict(zip(attributes, values)))
                self.assertEqual(vars(getattr(errors, name)(**dict(zip(attributes, values)))), vars(error))

    def test_the_others_need_nothing(self):
        for name in WITHOUT:
            with self.subTest(name):
                self.assertIsInstance(getattr(errors, name)(), errors.BathError)

    def test_there_are_no_others(self):
        found = [name for name in vars(errors) if isinstance(getattr(errors, name), type)]
        self.assertEqual(sorted(found), sorted(WITHOUT + list(WITH) + ["BathError"]))
