"""Points 2 to 5: baths, deeds, and what becomes of a bath on the way."""

import unittest

from rakedpapers.baths import Bath, done, ever, first_time, steps
from rakedpapers.errors import InvalidBath, InvalidRecipe, InvalidSign, UnknownCell
from tests.helpers import (
    FINE, LETTERS, SIZES, WRONG_RECIPES, WRONG_SIGNS, slow_done, some_cells, some_recipes,
)

SIX = Bath(3, 2, "abcdef")


def behind(width, height, cells, *recipe):
    """Return the cells behind some deeds."""
    return done(Bath(width, height, cells), recipe)[0].cells


class Baths(unittest.TestCase):
    def test_properties_and_length(self):
        for width, height in SIZES:
            with self.subTest(width=width, height=height):
                cells = (LETTERS[-6:] + ".zy.xab")[:width * height]
                bath = Bath(width, height, cells)
                self.assertEqual((bath.width, bath.height, bath.cells), (width, height, cells))
                self.assertEqual(len(bath), width * height)

    def test_all_signs_can_lie_on_a_bath(self):
        for sign in LETTERS + ".":
            self.assertEqual(Bath(1, 1, sign).cells, sign)

    def test_equal_if_all_three_are(self):
        self.assertTrue(Bath(2, 2, "ab.c") == Bath(2, 2, "ab.c"))
        self.assertFalse(Bath(2, 2, "ab.c") != Bath(2, 2, "ab.c"))
        self.assertFalse(Bath(2, 2, "ab.c") == Bath(2, 2, "ab.d"))
        self.assertTrue(Bath(2, 2, "ab.c") != Bath(2, 2, "ab.d"))
        self.assertFalse(Bath(4, 1, "ab.c") == Bath(2, 2, "ab.c"))
        self.assertFalse(Bath(4, 1, "ab.c") == Bath(1, 4, "ab.c"))
        self.assertFalse(Bath(2, 1, "ab") == "ab")

    def test_the_properties_cannot_be_set(self):
        for name in ("width", "height", "cells"):
            with self.subTest(name), self.assertRaises(AttributeError):
                setattr(Bath(1, 1, "a"), name, 1)

    def check_part(self, part, *arguments):
        with self.subTest(arguments), self.assertRaises(InvalidBath) as caught:
            Bath(*arguments)
        self.assertEqual(caught.exception.part, part)

    def test_width(self):
        for width in (0, 6, -1, 7, True, False):
            self.check_part("width", width, 1, "a")
            self.check_part("width", width, 0, "")

    def test_height(self):
        for height in (0, 6, -1, 7, True, False):
            self.check_part("height", 1, height, "a")
            self.check_part("height", 1, height, "")

    def test_too_many_cells(self):
        for width, height in ((5, 3), (3, 5), (4, 4), (5, 4), (5, 5)):
            self.check_part("height", width, height, "a" * width * height)
            self.check_part("height", width, height, "")

    def test_cells(self):
        for cells in (
            "", "abc", "abcde", "abcA", "abc ", "abc?", "ab1c", "abc\n", "abc\u00e4", ".....", ("a", "b", "c", "d"),
        ):
            self.check_part("cells", 2, 2, cells)


class Drops(unittest.TestCase):
    def test_on_one_cell_nothing_else_is_left(self):
        self.assertEqual(behind(1, 1, "a", ("drop", 0, "z")), "z")

    def test_in_one_row(self):
        self.assertEqual(behind(5, 1, "abcde", ("drop", 2, "z")), "bczcd")
        self.assertEqual(behind(5, 1, "abcde", ("drop", 0, "z")), "zabcd")
        self.assertEqual(behind(5, 1, "abcde", ("drop", 4, "z")), "bcdez")
        self.assertEqual(behind(5, 1, "abcde", ("drop", 1, "z")), "bzbcd")
        self.assertEqual(behind(2, 1, "ab", ("drop", 1, "z")), "bz")

    def test_in_one_column(self):
        self.assertEqual(behind(1, 5, "abcde", ("drop", 2, "z")), "bczcd")
        self.assertEqual(behind(1, 5, "abcde", ("drop", 0, "z")), "zabcd")
        self.assertEqual(behind(1, 5, "abcde", ("drop", 4, "z")), "bcdez")

    def test_amid(self):
        self.assertEqual(behind(3, 3, "abcdefghi", ("drop", 4, "z")), "aecezegei")
        self.assertEqual(behind(4, 3, "abcdefghijkl", ("drop", 5, "z")), "afcdfzfgifkl")
        self.assertEqual(behind(3, 4, "abcdefghijkl", ("drop", 4, "z")), "aecezegeijhl")

    def test_in_corners(self):
        self.assertEqual(behind(3, 3, "abcdefghi", ("drop", 0, "z")), "zabaefdhi")
        self.assertEqual(behind(3, 3, "abcdefghi", ("drop", 2, "z")), "bczdecghf")
        self.assertEqual(behind(3, 3, "abcdefghi", ("drop", 6, "z")), "dbcgefzgh")
        self.assertEqual(behind(3, 3, "abcdefghi", ("drop", 8, "z")), "abfdeihiz")

    def test_at_edges(self):
        self.assertEqual(behind(3, 3, "abcdefghi", ("drop", 1, "z")), "bzbdbfgei")
        self.assertEqual(behind(3, 3, "abcdefghi", ("drop", 3, "z")), "dbczdedhi")

    def test_nothing_is_pushed_too(self):
        self.assertEqual(behind(3, 1, "a.b", ("drop", 1, "z")), ".z.")

    def test_first_and_last_letter(self):
        self.assertEqual(behind(2, 1, "..", ("drop", 0, "a"), ("drop", 1, "z")), ".z")


class RakesAndCombs(unittest.TestCase):
    def test_each_row_has_its_own_stride(self):
        self.assertEqual(behind(3, 2, "abcdef", ("rake", (1, -1))), "cabefd")
        self.assertEqual(behind(4, 3, "abcdefghijkl", ("rake", (0, 1, 2))), "abcdhefgklij")

    def test_each_column_has_its_own_stride(self):
        self.assertEqual(behind(2, 3, "abcdef", ("comb", (1, -1))), "edafcb")
        self.assertEqual(behind(3, 4, "abcdefghijkl", ("comb", (0, 1, 2))), "akidblgecjhf")

    def test_strides_of_nine(self):
        self.assertEqual(behind(5, 1, "abcde", ("rake", (9,))), "bcdea")
        self.assertEqual(behind(5, 1, "abcde", ("rake", (-9,))), "eabcd")
        self.assertEqual(behind(1, 5, "abcde", ("comb", (9,))), "bcdea")
        self.assertEqual(behind(1, 5, "abcde", ("comb", (-9,))), "eabcd")

    def test_whole_turns_and_single_cells_stay(self):
        self.assertEqual(behind(3, 2, "abcdef", ("rake", (3, -6))), "abcdef")
        self.assertEqual(behind(3, 2, "abcdef", ("comb", (2, -8, 0))), "abcdef")
        self.assertEqual(behind(1, 3, "abc", ("rake", (1, 2, -9))), "abc")
        self.assertEqual(behind(3, 1, "abc", ("comb", (1, 2, -9))), "abc")


class Papers(unittest.TestCase):
    def check(self, bath, recipe, cells, papers):
        marbled, made = done(bath, recipe)
        self.assertEqual((marbled.cells, made), (cells, papers))

    def test_on_one_cell_and_on_all(self):
        self.check(SIX, (("paper", (5,)),), "abcde.", ["f"])
        self.check(SIX, (("paper", (0, 1, 2, 3, 4, 5)),), "......", ["abcdef"])
        self.check(Bath(1, 1, "a"), (("paper", (0,)),), ".", ["a"])

    def test_the_same_cell_twice(self):
        self.check(SIX, (("paper", (0, 4)), ("paper", (0, 1))), "..cd.f", ["ae", ".b"])

    def test_papers_take_what_lies_there_then(self):
        recipe = (("paper", (0,)), ("drop", 0, "z"), ("paper", (0, 3)), ("rake", (1, 1)), ("paper", (0, 1, 2, 3)))
        self.check(SIX, recipe, ".....e", ["a", "z.", "b..f"])


class Recipes(unittest.TestCase):
    def test_an_empty_one(self):
        self.assertEqual(done(SIX, ()), (SIX, []))
        self.assertEqual(list(steps(SIX, ())), [])

    def test_twelve_deeds(self):
        self.assertEqual(done(SIX, (FINE,) * 12)[0].cells, "abcdef")
        self.assertEqual(len(list(steps(SIX, (FINE,) * 12))), 12)

    def test_kinds_of_what_is_returned(self):
        told = done(SIX, (("paper", (0,)),))
        self.assertIsInstance(told, tuple)
        self.assertIsInstance(told[0], Bath)
        self.assertIsInstance(told[1], list)
        self.assertIsInstance(next(steps(SIX, (FINE,))), Bath)

    def test_against_a_slow_way(self):
        for width, height in SIZES:
            for turn, recipe in enumerate(some_recipes(width, height, 40)):
                with self.subTest(width=width, height=height, recipe=recipe):
                    cells = some_cells(width, height, turn)
                    bath = Bath(width, height, cells)
                    texts, papers = slow_done(width, height, cells, recipe)
                    self.assertEqual([step.cells for step in steps(bath, recipe)], texts)
                    self.assertEqual(done(bath, recipe), (Bath(width, height, ([cells] + texts)[-1]), papers))

    def test_deeds_that_are_none(self):
        for recipe, index in WRONG_RECIPES:
            for call in (done, lambda bath, recipe: list(steps(bath, recipe))):
                with self.subTest(recipe), self.assertRaises(InvalidRecipe) as caught:
                    call(SIX, recipe)
                self.assertEqual(caught.exception.index, index)

    def test_deeds_that_are_none_for_another_bath(self):
        for bath, deed in (
            (Bath(1, 1, "a"), ("drop", 1, "a")), (Bath(1, 1, "a"), ("rake", (1, 1))),
            (Bath(2, 3, "abcdef"), ("rake", (1, 1))), (Bath(2, 3, "abcdef"), ("comb", (1, 1, 1))),
            (Bath(4, 3, "a" * 12), ("drop", 12, "a")), (Bath(4, 3, "a" * 12), ("paper", (11, 12))),
        ):
            with self.subTest(deed), self.assertRaises(InvalidRecipe):
                done(bath, (deed,))

    def test_deeds_at_the_bounds(self):
        bath = Bath(4, 3, "a" * 12)
        recipe = (("drop", 0, "a"), ("drop", 11, "z"), ("rake", (-9, 0, 9)), ("comb", (9, -9, 0, 1)),
                  ("paper", tuple(range(12))), ("paper", (11,)), ("paper", (0,)))
        self.assertEqual(len(done(bath, recipe)[1]), 3)


class Steps(unittest.TestCase):
    def test_the_error_comes_when_the_iteration_begins(self):
        walk = steps(SIX, (FINE, ()))
        with self.assertRaises(InvalidRecipe) as caught:
            next(walk)
        self.assertEqual(caught.exception.index, 1)

    def test_it_is_a_generator(self):
        walk = steps(SIX, (FINE, FINE))
        self.assertIs(iter(walk), walk)
        self.assertEqual([next(walk).cells, next(walk).cells, next(walk, None)], ["cabdef", "bcadef", None])


class FirstTime(unittest.TestCase):
    recipe = (("rake", (1, 0)), ("paper", (0, 1)), ("drop", 5, "z"), ("drop", 0, "c"))

    def test_at_the_beginning(self):
        self.assertEqual(first_time(SIX, self.recipe, 0, "a"), 0)
        self.assertEqual(first_time(SIX, (), 5, "f"), 0)
        self.assertEqual(first_time(Bath(1, 1, "."), (), 0, "."), 0)

    def test_behind_some_deed(self):
        self.assertEqual(first_time(SIX, self.recipe, 0, "c"), 1)
        self.assertEqual(first_time(SIX, self.recipe, 1, "."), 2)
        self.assertEqual(first_time(SIX, self.recipe, 5, "z"), 3)
        self.assertEqual(first_time(SIX, self.recipe, 4, "f"), 3)
        self.assertEqual(first_time(SIX, self.recipe, 3, "."), 4)

    def test_never(self):
        self.assertIsNone(first_time(SIX, self.recipe, 0, "q"))
        self.assertIsNone(first_time(SIX, self.recipe, 5, "."))
        self.assertIsNone(first_time(SIX, (), 0, "b"))

    def test_errors_in_their_order(self):
        for recipe, index in WRONG_RECIPES:
            with self.subTest(recipe), self.assertRaises(InvalidRecipe) as caught:
                first_time(SIX, recipe, 6, "")
            self.assertEqual(caught.exception.index, index)
        for cell in (-1, 6, 12, True, False):
            with self.subTest(cell), self.assertRaises(UnknownCell):
                first_time(SIX, (), cell, "")
        for sign in WRONG_SIGNS:
            with self.subTest(sign), self.assertRaises(InvalidSign):
                first_time(SIX, (), 5, sign)


class Ever(unittest.TestCase):
    def test_at_the_beginning_and_behind_deeds(self):
        recipe = (("rake", (1, 0)), ("paper", (0, 1)), ("drop", 5, "z"))
        self.assertEqual(ever(SIX, recipe, "a"), (0, 1))
        self.assertEqual(ever(SIX, recipe, "f"), (2, 4, 5))
        self.assertEqual(ever(SIX, recipe, "z"), (5,))
        self.assertEqual(ever(SIX, recipe, "q"), ())
        self.assertEqual(ever(Bath(2, 2, "a.a."), (), "a"), (0, 2))
        self.assertEqual(ever(Bath(2, 2, "a.a."), (("comb", (0, 1)),), "."), (1, 3))

    def test_errors_in_their_order(self):
        for recipe, index in WRONG_RECIPES:
            with self.subTest(recipe), self.assertRaises(InvalidRecipe) as caught:
                ever(SIX, recipe, "")
            self.assertEqual(caught.exception.index, index)
        for sign in WRONG_SIGNS:
            with self.subTest(sign), self.assertRaises(InvalidSign):
                ever(SIX, (FINE,), sign)


class WhatIsKept(unittest.TestCase):
    def test_the_caller_may_change_lists(self):
        recipe = (("paper", (0,)), ("paper", (1,)))
        done(SIX, recipe)[1].append("x")
        done(SIX, recipe)[1].clear()
        self.assertEqual(done(SIX, recipe), (Bath(3, 2, "..cdef"), ["a", "b"]))
        done(SIX, ())[1].append("x")
        self.assertEqual(done(SIX, ())[1], [])

    def test_arguments_are_as_before(self):
        bath, recipe = Bath(3, 2, "abcdef"), (("paper", (0,)), ("drop", 1, "x"), FINE)
        for turn in range(2):
            done(bath, recipe), list(steps(bath, recipe)), first_time(bath, recipe, 0, "x"), ever(bath, recipe, "x")
            with self.assertRaises(InvalidRecipe):
                done(bath, recipe + ((),))
            self.assertEqual(bath, SIX)
            self.assertEqual(recipe, (("paper", (0,)), ("drop", 1, "x"), FINE))

    def test_repeated_calls_are_equal(self):
        recipe = (("paper", (0,)), ("drop", 1, "x"), FINE)
        self.assertEqual(done(SIX, recipe), done(SIX, recipe))
        self.assertEqual(list(steps(SIX, recipe)), list(steps(SIX, recipe)))
