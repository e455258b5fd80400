"""Point 16: a recipe that is done again and again."""

import unittest

from rakedpapers.again import after_times, period
from rakedpapers.baths import Bath
from rakedpapers.errors import InvalidNumber, InvalidRecipe
from tests.helpers import (
    FINE, LETTERS, SIZES, WRONG_RECIPES, slow_behind, some_cells, some_recipes,
)

SIX = Bath(3, 2, "abcdef")
MOST = 10 ** 18
MARKS = LETTERS.upper()
WRONG_COUNTS = [-1, -MOST, MOST + 1, 10 ** 19, True, False]

# The twelve cells go round in rings of three, four and five, which takes the longest.
LONG = (("rake", (1, -4, -4)), ("comb", (6, -5, 1, 4)), ("rake", (1, -6, -1)), ("comb", (8, 6, 9, 5)))
# All twelve cells go round in one ring, in which a paper leaves nothing on one of them each time.
SLOW = (("paper", (4,)), ("comb", (-7, -9, 7)), ("rake", (4, 0, 3, 1)))


def texts_in_turn(width, height, cells, recipe, many):
    """Return the list of the texts behind 0, 1, 2 and so on times."""
    texts = [cells]
    for turn in range(many):
        texts.append(slow_behind(width, height, texts[-1], recipe))
    return texts


def chained(one, other):
    """Return what becomes of marks by one outcome, and by another one behind it."""
    return "".join(one[MARKS.index(mark)] if mark in MARKS else mark for mark in other)


def by_squares(width, height, cells, recipe, count):
    """Return the text behind so many times, by doubling what becomes of marks on the cells."""
    whole = MARKS[:width * height]
    power = slow_behind(width, height, whole, recipe)
    while count:
        if count % 2:
            whole = chained(whole, power)
        power, count = chained(power, power), count // 2
    return "".join(cells[MARKS.index(mark)] if mark in MARKS else mark for mark in whole)


class AfterTimes(unittest.TestCase):
    def check(self, bath, recipe, count, cells):
        with self.subTest(bath=bath.cells, recipe=recipe, count=count):
            found = after_times(bath, recipe, count)
            self.assertIsInstance(found, Bath)
            self.assertEqual((found.width, found.height, found.cells), (bath.width, bath.height, cells))

    def test_no_times(self):
        self.check(SIX, (FINE,), 0, "abcdef")
        self.check(SIX, (("paper", (0, 1, 2, 3, 4, 5)),), 0, "abcdef")
        self.check(Bath(1, 1, "."), (("drop", 0, "a"),), 0, ".")

    def test_no_deeds(self):
        for count in (0, 1, 2, MOST):
            self.check(SIX, (), count, "abcdef")

    def test_some_times(self):
        self.check(SIX, (FINE,), 1, "cabdef")
        self.check(SIX, (FINE,), 2, "bcadef")
        self.check(SIX, (FINE,), 3, "abcdef")
        self.check(SIX, (FINE,), 5, "bcadef")
        self.check(Bath(3, 1, "..."), (("drop", 1, "a"),), 1, ".a.")
        self.check(Bath(3, 1, "..."), (("drop", 1, "a"),), 2, "aaa")
        self.check(Bath(3, 1, "..."), (("drop", 1, "a"),), 3, "aaa")

    def test_very_many_times(self):
        self.check(SIX, (FINE,), MOST, "cabdef")
        self.check(SIX, (FINE,), MOST - 1, "abcdef")
        self.check(Bath(3, 1, "..."), (("drop", 1, "a"),), MOST, "aaa")
        self.check(Bath(1, 1, "a"), (("drop", 0, "b"), ("rake", (9,))), MOST, "b")
        self.check(Bath(5, 1, "abcde"), (("rake", (1,)),), MOST, "abcde")
        self.check(Bath(1, 5, "abcde"), (("comb", (1,)),), MOST - 1, "bcdea")
        self.check(Bath(3, 1, "abc"), (("drop", 0, "x"), ("paper", (2,))), MOST, "xx.")

    def test_twelve_deeds_again_and_again(self):
        recipe = (FINE,) * 11 + (("comb", (1, 1, 1)),)
        self.check(SIX, recipe, 1, "defbca")
        self.check(SIX, recipe, 2, "bcaefd")
        self.check(SIX, recipe, 6, "abcdef")
        self.check(SIX, (FINE,) * 12, MOST, "abcdef")

    def test_against_a_slow_way(self):
        for width, height in SIZES:
            for turn, recipe in enumerate(some_recipes(width, height, 8)):
                for cells in (some_cells(width, height, turn), LETTERS[:width * height]):
                    bath = Bath(width, height, cells)
                    for count, text in enumerate(texts_in_turn(width, height, cells, recipe, 15)):
                        self.check(bath, recipe, count, text)
                    for count in (1000, 10 ** 9 + 7, MOST - 1, MOST):
                        self.check(bath, recipe, count, by_squares(width, height, cells, recipe, count))

    def test_the_longest_ways(self):
        for width, height, recipe in ((4, 3, LONG), (3, 4, SLOW)):
            cells = LETTERS[:12]
            bath = Bath(width, height, cells)
            for count, text in enumerate(texts_in_turn(width, height, cells, recipe, 130)):
                self.check(bath, recipe, count, text)
            for count in range(MOST - 70, MOST + 1):
                self.check(bath, recipe, count, by_squares(width, height, cells, recipe, count))


class Period(unittest.TestCase):
    def test_no_deeds(self):
        self.assertEqual(period(SIX, ()), (0, 1))
        self.assertEqual(period(Bath(1, 1, "."), ()), (0, 1))

    def test_rakes_and_combs_lead_back_to_the_beginning(self):
        self.assertEqual(period(SIX, (FINE,)), (0, 3))
        self.assertEqual(period(SIX, (("comb", (1, 0, 0)),)), (0, 2))
        self.assertEqual(period(SIX, (("rake", (3, -6)),)), (0, 1))
        self.assertEqual(period(Bath(5, 1, "abcde"), (("rake", (2,)),)), (0, 5))
        self.assertEqual(period(Bath(1, 4, "abcd"), (("comb", (2,)),)), (0, 2))
        self.assertEqual(period(Bath(4, 3, LETTERS[:12]), LONG), (0, 60))

    def test_equal_signs_return_earlier(self):
        self.assertEqual(period(Bath(4, 1, "abab"), (("rake", (1,)),)), (0, 2))
        self.assertEqual(period(Bath(4, 1, "aaaa"), (("rake", (1,)),)), (0, 1))
        self.assertEqual(period(Bath(4, 3, "." * 12), LONG), (0, 1))

    def test_drops_and_papers_come_to_a_rest(self):
        self.assertEqual(period(Bath(3, 1, "..."), (("drop", 1, "a"),)), (2, 1))
        self.assertEqual(period(Bath(3, 1, "aaa"), (("drop", 1, "a"),)), (0, 1))
        self.assertEqual(period(Bath(1, 1, "a"), (("drop", 0, "a"),)), (0, 1))
        self.assertEqual(period(Bath(1, 1, "a"), (("drop", 0, "b"),)), (1, 1))
        self.assertEqual(period(SIX, (("paper", (0, 1)),)), (1, 1))
        self.assertEqual(period(Bath(3, 4, LETTERS[:12]), SLOW), (12, 1))

    def test_drops_and_papers_that_lead_into_a_ring(self):
        self.assertEqual(period(SIX, (("paper", (3,)), ("rake", (1, 0)))), (1, 3))
        self.assertEqual(period(SIX, (("paper", (5,)), ("rake", (1, 1)))), (3, 3))

    def test_against_a_slow_way(self):
        for width, height in SIZES:
            for turn, recipe in enumerate(some_recipes(width, height, 12, 4)):
                for cells in (some_cells(width, height, turn), LETTERS[:width * height]):
                    texts = texts_in_turn(width, height, cells, recipe, 150)
                    begin = min(at for at in range(75) if texts[at] in texts[at + 1:])
                    wanted = (begin, texts.index(texts[begin], begin + 1) - begin)
                    with self.subTest(width=width, height=height, recipe=recipe, cells=cells):
                        self.assertEqual(period(Bath(width, height, cells), recipe), wanted)

    def test_kinds(self):
        self.assertIsInstance(period(SIX, (FINE,)), tuple)


class ErrorsInTheirOrder(unittest.TestCase):
    def test_the_recipe_comes_first(self):
        for recipe, index in WRONG_RECIPES:
            with self.subTest(recipe):
                with self.assertRaises(InvalidRecipe) as caught:
                    period(SIX, recipe)
                self.assertEqual(caught.exception.index, index)
                for count in (0, MOST, -1, True):
                    with self.assertRaises(InvalidRecipe) as caught:
                        after_times(SIX, recipe, count)
                    self.assertEqual(caught.exception.index, index)

    def test_then_the_number(self):
        for count in WRONG_COUNTS:
            for recipe in ((), (FINE,), (("drop", 0, "z"),)):
                with self.subTest(count=count, recipe=recipe), self.assertRaises(InvalidNumber):
                    after_times(SIX, recipe, count)


class WhatIsKept(unittest.TestCase):
    def test_arguments_are_as_before_and_results_equal(self):
        bath, recipe = Bath(3, 2, "abcdef"), (("paper", (5,)), ("rake", (1, 1)))
        for turn in range(2):
            self.assertEqual(period(bath, recipe), (3, 3))
            self.assertEqual(after_times(bath, recipe, 1).cells, "cab.de")
            self.assertEqual(after_times(bath, recipe, 0), bath)
            self.assertIsNot(after_times(bath, recipe, 0), bath)
            with self.assertRaises(InvalidNumber):
                after_times(bath, recipe, -1)
            self.assertEqual(bath, SIX)
            self.assertEqual(recipe, (("paper", (5,)), ("rake", (1, 1))))
