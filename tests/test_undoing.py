"""Points 9 and 10: which draws undo others, and recipes that are shortened."""

import random
import unittest

from rakedpapers.baths import Bath, done
from rakedpapers.errors import InvalidDeed, InvalidRecipe
from rakedpapers.origins import alike
from rakedpapers.undoing import opposite, shortened, undoing
from tests.helpers import (
    FINE, LETTERS, SIZES, WRONG_DEEDS, WRONG_RECIPES, some_deed, some_draws, some_recipes,
)

SIX = Bath(3, 2, "abcdef")


def slowly_shortened(width, height, recipe):
    """Shorten a recipe from its end, one change at a time."""
    lengths = {"rake": width, "comb": height}
    deeds = [
        (deed[0], tuple(stride % lengths[deed[0]] for stride in deed[1])) if deed[0] in lengths else deed
        for deed in recipe
    ]
    at = len(deeds) - 1
    while at >= 0:
        if deeds[at][0] in lengths and set(deeds[at][1]) == {0}:
            del deeds[at]
        elif at + 1 < len(deeds) and deeds[at][0] in lengths and deeds[at][0] == deeds[at + 1][0]:
            word, strides = deeds.pop(at)
            deeds[at] = (word, tuple((one + other) % lengths[word] for one, other in zip(strides, deeds[at][1])))
        else:
            at -= 1
            continue
        at = len(deeds) - 1
    return tuple(deeds)


class Opposite(unittest.TestCase):
    def test_least_strides(self):
        self.assertEqual(opposite(SIX, ("rake", (1, -1))), ("rake", (2, 1)))
        self.assertEqual(opposite(SIX, ("rake", (0, 0))), ("rake", (0, 0)))
        self.assertEqual(opposite(SIX, ("rake", (3, -6))), ("rake", (0, 0)))
        self.assertEqual(opposite(SIX, ("rake", (9, -8))), ("rake", (0, 2)))
        self.assertEqual(opposite(SIX, ("comb", (1, -1, 2))), ("comb", (1, 1, 0)))
        self.assertEqual(opposite(SIX, ("comb", (9, -9, -8))), ("comb", (1, 1, 0)))

    def test_one_cell_one_row_one_column(self):
        self.assertEqual(opposite(Bath(1, 1, "a"), ("rake", (5,))), ("rake", (0,)))
        self.assertEqual(opposite(Bath(1, 1, "a"), ("comb", (-5,))), ("comb", (0,)))
        self.assertEqual(opposite(Bath(5, 1, "abcde"), ("rake", (9,))), ("rake", (1,)))
        self.assertEqual(opposite(Bath(5, 1, "abcde"), ("comb", (1, 2, 3, 4, 5))), ("comb", (0,) * 5))
        self.assertEqual(opposite(Bath(1, 5, "abcde"), ("comb", (-9,))), ("comb", (4,)))
        self.assertEqual(opposite(Bath(1, 5, "abcde"), ("rake", (1, 2, 3, 4, 5))), ("rake", (0,) * 5))

    def test_the_greatest_trays(self):
        self.assertEqual(opposite(Bath(4, 3, "a" * 12), ("rake", (1, 2, -7))), ("rake", (3, 2, 3)))
        self.assertEqual(opposite(Bath(4, 3, "a" * 12), ("comb", (1, 2, -7, 0))), ("comb", (2, 1, 1, 0)))
        self.assertEqual(opposite(Bath(3, 4, "a" * 12), ("comb", (1, 2, -7))), ("comb", (3, 2, 3)))
        self.assertEqual(opposite(Bath(3, 4, "a" * 12), ("rake", (1, 2, -7, 0))), ("rake", (2, 1, 1, 0)))

    def test_it_undoes_and_undoes_itself(self):
        chance = random.Random(9)
        for width, height in SIZES:
            bath = Bath(width, height, LETTERS[:width * height])
            for deed in some_draws(chance, width, height) + some_draws(chance, width, height):
                with self.subTest(width=width, height=height, deed=deed):
                    back = opposite(bath, deed)
                    self.assertEqual(done(bath, (deed, back))[0], bath)
                    self.assertEqual(done(bath, (back, deed))[0], bath)
                    self.assertEqual(back[0], deed[0])
                    self.assertIsInstance(back[1], tuple)
                    self.assertEqual(len(back[1]), len(deed[1]))
                    self.assertLessEqual(set(back[1]), set(range(width if deed[0] == "rake" else height)))

    def test_no_such_deeds(self):
        for deed in WRONG_DEEDS + [("drop", 0, "z"), ("drop", 5, "a"), ("paper", (0,)), ("paper", (0, 5))]:
            with self.subTest(deed), self.assertRaises(InvalidDeed):
                opposite(SIX, deed)

    def test_deeds_for_another_bath(self):
        for bath, deed in (
            (Bath(2, 3, "abcdef"), ("rake", (1, 1))), (Bath(2, 3, "abcdef"), ("comb", (1, 1, 1))),
            (Bath(1, 1, "a"), ("rake", (1, 1))), (Bath(1, 1, "a"), ("comb", ())),
        ):
            with self.subTest(deed), self.assertRaises(InvalidDeed):
                opposite(bath, deed)


class Shortened(unittest.TestCase):
    def check(self, bath, recipe, wanted):
        with self.subTest(recipe):
            self.assertEqual(shortened(bath, recipe), wanted)

    def test_strides_are_the_least(self):
        self.check(SIX, (), ())
        self.check(SIX, (("rake", (4, -1)),), (("rake", (1, 2)),))
        self.check(SIX, (("comb", (3, -4, -9)),), (("comb", (1, 0, 1)),))
        self.check(Bath(4, 3, "a" * 12), (("rake", (9, -9, 4)), ("comb", (9, -9, 4, -1))),
                   (("rake", (1, 3, 0)), ("comb", (0, 0, 1, 2))))

    def test_those_that_follow_one_another_are_one(self):
        self.check(SIX, (("rake", (1, 0)), ("rake", (1, 1))), (("rake", (2, 1)),))
        self.check(SIX, (("rake", (1, 0)),) * 4, (("rake", (1, 0)),))
        self.check(SIX, (("comb", (1, 0, 0)), ("comb", (0, 1, 0)), ("comb", (1, 0, 1))), (("comb", (0, 1, 1)),))
        self.check(SIX, (("rake", (1, 0)), ("comb", (1, 0, 0)), ("rake", (1, 0))),
                   (("rake", (1, 0)), ("comb", (1, 0, 0)), ("rake", (1, 0))))

    def test_those_by_which_nothing_moves_are_left_out(self):
        self.check(SIX, (("rake", (0, 0)),), ())
        self.check(SIX, (("rake", (3, -9)), ("comb", (2, 4, -8))), ())
        self.check(SIX, (("rake", (1, 2)), ("rake", (2, 1))), ())
        self.check(Bath(1, 1, "a"), (("rake", (1,)), ("comb", (1,)), ("drop", 0, "b")), (("drop", 0, "b"),))
        self.check(Bath(5, 1, "abcde"), (("comb", (1, 2, 3, 4, 5)), ("rake", (6,))), (("rake", (1,)),))
        self.check(Bath(1, 5, "abcde"), (("rake", (1, 2, 3, 4, 5)), ("comb", (6,))), (("comb", (1,)),))

    def test_a_stride_moves_equal_signs_too(self):
        self.check(Bath(3, 2, "aaaaaa"), (("rake", (1, 0)),), (("rake", (1, 0)),))

    def test_again_and_again(self):
        self.check(SIX, (("rake", (2, 0)), ("comb", (2, 0, 0)), ("rake", (1, 4))), (("rake", (0, 1)),))
        self.check(SIX, (("rake", (2, 0)), ("comb", (2, 0, 0)), ("rake", (1, 3))), ())
        rake, comb = ("rake", (1, 0)), ("comb", (1, 0, 0))
        back = ("rake", (2, 0))
        self.check(SIX, (rake, comb, rake, comb, comb, back, comb, back), ())
        self.check(SIX, (comb, rake, comb, comb, back, comb), ())
        self.check(SIX, (comb, rake, comb, comb, rake, comb, rake), (comb, back, comb, rake))

    def test_drops_and_papers_stay_and_part(self):
        rake, drop, paper = ("rake", (1, 0)), ("drop", 0, "z"), ("paper", (0, 1))
        self.check(SIX, (rake, drop, rake), (rake, drop, rake))
        self.check(SIX, (rake, paper, rake, rake, rake, paper, rake, rake), (rake, paper, paper, ("rake", (2, 0))))
        self.check(SIX, (drop, drop, paper, paper), (drop, drop, paper, paper))
        self.check(SIX, (drop,) * 12, (drop,) * 12)

    def test_it_does_the_same(self):
        for width, height in SIZES:
            for recipe in some_recipes(width, height, 30):
                short = shortened(Bath(width, height, "." * (width * height)), recipe)
                with self.subTest(width=width, height=height, recipe=recipe):
                    self.assertTrue(alike(width, height, recipe, short))
                    self.assertEqual(short, slowly_shortened(width, height, recipe))

    def test_many_draws_of_few_strides(self):
        chance = random.Random(1)
        for width, height in ((1, 1), (2, 1), (1, 2), (2, 2), (3, 1)):
            bath = Bath(width, height, LETTERS[:width * height])
            for turn in range(200):
                recipe = tuple(some_deed(chance, width, height) for deed in range(12))
                draws = some_draws(chance, width, height)
                for one in (recipe, draws):
                    self.assertEqual(shortened(bath, one), slowly_shortened(width, height, one))

    def test_wrong_recipes(self):
        for recipe, index in WRONG_RECIPES:
            with self.subTest(recipe), self.assertRaises(InvalidRecipe) as caught:
                shortened(SIX, recipe)
            self.assertEqual(caught.exception.index, index)


class Undoing(unittest.TestCase):
    def test_the_last_deed_comes_first(self):
        rake, comb = ("rake", (1, 0)), ("comb", (1, 0, 0))
        self.assertEqual(undoing(SIX, (rake, comb)), (comb, ("rake", (2, 0))))
        self.assertEqual(undoing(SIX, (comb, rake)), (("rake", (2, 0)), comb))
        self.assertEqual(undoing(SIX, ()), ())

    def test_it_is_shortened(self):
        rake, comb = ("rake", (1, 0)), ("comb", (1, 0, 0))
        self.assertEqual(undoing(SIX, (rake, rake)), (("rake", (1, 0)),))
        self.assertEqual(undoing(SIX, (rake, comb, comb, rake, rake)), ())
        self.assertEqual(undoing(SIX, (rake,) * 12), ())
        self.assertEqual(undoing(Bath(1, 1, "a"), (("rake", (7,)), ("comb", (-7,)))), ())

    def test_none_for_drops_and_papers(self):
        for deed in (("drop", 0, "z"), ("paper", (0,))):
            for recipe in ((deed,), (FINE, deed), (deed, FINE), (FINE, FINE, deed, FINE)):
                with self.subTest(recipe):
                    self.assertIsNone(undoing(SIX, recipe))
        self.assertIsNone(undoing(Bath(1, 1, "a"), (("drop", 0, "a"),)))

    def test_it_brings_back_what_lay_there(self):
        chance = random.Random(10)
        for width, height in SIZES:
            bath = Bath(width, height, LETTERS[:width * height])
            for turn in range(20):
                recipe = some_draws(chance, width, height)
                with self.subTest(width=width, height=height, recipe=recipe):
                    back = undoing(bath, recipe)
                    self.assertEqual(done(done(bath, recipe)[0], back)[0], bath)
                    self.assertEqual(back, shortened(bath, back))
                    self.assertEqual(undoing(bath, back), shortened(bath, recipe))

    def test_wrong_recipes_with_and_without_drops(self):
        for recipe, index in WRONG_RECIPES:
            with self.subTest(recipe), self.assertRaises(InvalidRecipe) as caught:
                undoing(SIX, recipe)
            self.assertEqual(caught.exception.index, index)
        with self.assertRaises(InvalidRecipe) as caught:
            undoing(SIX, (("drop", 0, "z"), ()))
        self.assertEqual(caught.exception.index, 1)


class WhatIsKept(unittest.TestCase):
    def test_arguments_are_as_before_and_results_equal(self):
        bath, draws = Bath(3, 2, "abcdef"), (FINE, ("comb", (1, 3, 0)))
        recipe = draws + (("drop", 0, "z"), ("rake", (3, 3)))
        for turn in range(2):
            self.assertEqual(opposite(bath, draws[0]), ("rake", (2, 0)))
            self.assertEqual(undoing(bath, draws), (("comb", (1, 1, 0)), ("rake", (2, 0))))
            self.assertEqual(shortened(bath, recipe), (FINE, ("comb", (1, 1, 0)), ("drop", 0, "z")))
            self.assertEqual(bath, SIX)
            self.assertEqual(recipe, (FINE, ("comb", (1, 3, 0)), ("drop", 0, "z"), ("rake", (3, 3))))

    def test_kinds(self):
        self.assertIsInstance(opposite(SIX, FINE), tuple)
        self.assertIsInstance(shortened(SIX, ()), tuple)
        self.assertIsInstance(undoing(SIX, ()), tuple)
