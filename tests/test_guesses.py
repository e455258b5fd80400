"""Points 19 to 21: orders and strides that are not known, and a rake that is done again and again."""

import itertools
import random
import unittest

from rakedpapers.baths import Bath, done
from rakedpapers.errors import (
    InvalidCells, InvalidDeed, InvalidNumber, InvalidRecipe, InvalidSign, InvalidText, TooMany, UnknownCell,
)
from rakedpapers.guesses import (
    first_order, first_rake, nth_seen, orders_to, rake_count, seen_times, sure_strides,
)
from tests.helpers import (
    FINE, LETTERS, SIZES, WRONG_PAPER_CELLS, WRONG_RECIPES, WRONG_SIGNS, WRONG_TEXTS, slow_behind, some_cells,
    some_deed, some_paper_cells,
)

SIX = Bath(3, 2, "abcdef")
ROW = Bath(3, 1, "abc")
MOST = 10 ** 18
MOST_NUMBER = 10 ** 15
ORDERS = (orders_to, first_order)
RAKES = (rake_count, first_rake, sure_strides)

# None of these is a tuple of strides of a rake for a bath of three columns and two rows.
WRONG_STRIDES = [
    (), (1,), (1, 0, 0), (10, 0), (0, -10), (True, 0), (0, False), ("1", 0), ((1,), 0), (100, 100),
]
# None of these is a text of a sign or "?" for each of two cells.
WRONG_GUESSES = ["", "a", "abc", "???", "A?", "? ", "1?", "a\n", "\u00e4?", "a*", "--"]


class Orders(unittest.TestCase):
    def check(self, bath, recipe, cells, count, first):
        with self.subTest(bath=bath.cells, recipe=recipe, cells=cells):
            self.assertEqual(orders_to(bath, recipe, cells), count)
            self.assertEqual(first_order(bath, recipe, cells), first)

    def test_no_deeds(self):
        self.check(SIX, (), "abcdef", 1, ())
        self.check(SIX, (), "abcdeg", 0, None)
        self.check(Bath(1, 1, "."), (), ".", 1, ())

    def test_one_deed(self):
        self.check(SIX, (FINE,), "cabdef", 1, (0,))
        self.check(SIX, (FINE,), "abcdef", 0, None)

    def test_orders_that_matter(self):
        recipe = (("drop", 0, "x"), ("rake", (1,)))
        self.check(Bath(2, 1, "ab"), recipe, "xb", 1, (1, 0))
        self.check(Bath(2, 1, "ab"), recipe, "ax", 1, (0, 1))
        self.check(Bath(2, 1, "ab"), recipe, "xa", 0, None)

    def test_orders_that_do_not_matter(self):
        self.check(SIX, (("rake", (1, 0)), ("rake", (0, 1))), "cabfde", 2, (0, 1))
        self.check(SIX, (("rake", (1, 0)), ("rake", (0, 1)), ("rake", (2, 2))), "abcdef", 6, (0, 1, 2))

    def test_equal_deeds_count_once(self):
        self.check(SIX, (FINE, FINE), "bcadef", 1, (0, 1))
        self.check(SIX, (FINE,) * 6, "abcdef", 1, (0, 1, 2, 3, 4, 5))
        recipe = (("drop", 0, "x"), ("drop", 0, "x"), ("rake", (1,)))
        self.check(ROW, recipe, "axx", 1, (0, 1, 2))
        self.check(ROW, recipe, "xbx", 1, (0, 2, 1))
        self.check(ROW, recipe, "xxc", 1, (2, 0, 1))
        self.check(ROW, recipe, "xxx", 0, None)

    def test_deeds_that_do_the_same_are_not_equal(self):
        self.check(ROW, (("rake", (1,)), ("rake", (-2,))), "bca", 2, (0, 1))
        self.check(SIX, (("paper", (0,)), ("paper", (0, 1))), "..cdef", 2, (0, 1))

    def test_six_deeds(self):
        recipe = tuple(("drop", 0, letter) for letter in "uvwxyz")
        self.check(Bath(1, 1, "a"), recipe, "z", 120, (0, 1, 2, 3, 4, 5))
        self.check(Bath(1, 1, "a"), recipe, "u", 120, (1, 2, 3, 4, 5, 0))
        self.check(Bath(1, 1, "a"), recipe, "w", 120, (0, 1, 3, 4, 5, 2))
        self.check(Bath(1, 1, "a"), recipe, "a", 0, None)

    def test_the_greatest_trays(self):
        recipe = (("rake", (1, 0, 0)), ("rake", (0, 1, 0)), ("comb", (1, 0, 0, 0)))
        for width, height, deeds in ((4, 3, recipe), (3, 4, (("comb", (1, 0, 0)), ("rake", (1, 0, 0, 0))))):
            text = LETTERS[:12]
            behind = slow_behind(width, height, text, deeds)
            wanted = [
                order for order in itertools.permutations(range(len(deeds)))
                if slow_behind(width, height, text, [deeds[at] for at in order]) == behind]
            self.check(Bath(width, height, text), deeds, behind, len(wanted), wanted[0])

    def test_against_a_slow_way(self):
        for width, height in SIZES:
            chance = random.Random(width * 10 + height)
            for many in (2, 3, 4):
                pool = [some_deed(chance, width, height) for turn in range(many - 1)]
                recipe = tuple(pool + [chance.choice(pool)])
                text = some_cells(width, height, many)
                found = {}
                for order in itertools.permutations(range(many)):
                    deeds = tuple(recipe[at] for at in order)
                    found.setdefault(slow_behind(width, height, text, deeds), []).append((order, deeds))
                for cells, ways in found.items():
                    count = len(set(deeds for order, deeds in ways))
                    self.check(Bath(width, height, text), recipe, cells, count, ways[0][0])


def slow_rakes(bath, cells, text):
    """Return the strides of all rakes that do, in tuple order."""
    found = []
    for strides in itertools.product(range(bath.width), repeat=bath.height):
        behind = slow_behind(bath.width, bath.height, bath.cells, (("rake", strides),))
        if all(mark in ("?", behind[cell]) for cell, mark in zip(cells, text)):
            found.append(strides)
    return found


def shared(rakes):
    """Return the strides that some rakes share."""
    return tuple(row[0] if len(set(row)) == 1 else None for row in zip(*rakes)) if rakes else None


class Rakes(unittest.TestCase):
    def check(self, bath, cells, text, count, first, sure):
        with self.subTest(bath=bath.cells, cells=cells, text=text):
            self.assertEqual(rake_count(bath, cells, text), count)
            self.assertEqual(first_rake(bath, cells, text), first)
            self.assertEqual(sure_strides(bath, cells, text), sure)

    def test_one_row(self):
        self.check(ROW, (0,), "a", 1, (0,), (0,))
        self.check(ROW, (0,), "c", 1, (1,), (1,))
        self.check(ROW, (0, 2), "ba", 1, (2,), (2,))
        self.check(ROW, (0, 1, 2), "b?a", 1, (2,), (2,))

    def test_rows_of_their_own(self):
        self.check(SIX, (0,), "b", 3, (2, 0), (2, None))
        self.check(SIX, (3,), "f", 3, (0, 1), (None, 1))
        self.check(SIX, (0, 3), "bf", 1, (2, 1), (2, 1))
        self.check(Bath(3, 2, "aabdef"), (0, 4), "ae", 2, (0, 0), (None, 0))

    def test_no_such_rake(self):
        self.check(SIX, (0,), "d", 0, None, None)
        self.check(SIX, (0,), ".", 0, None, None)
        self.check(SIX, (0, 1), "ac", 0, None, None)
        self.check(SIX, (0, 3), "aa", 0, None, None)
        self.check(Bath(1, 1, "a"), (0,), "b", 0, None, None)

    def test_nothing_is_known(self):
        self.check(SIX, (0,), "?", 9, (0, 0), (None, None))
        self.check(SIX, (0, 1, 2, 3, 4, 5), "??????", 9, (0, 0), (None, None))
        self.check(Bath(4, 3, "." * 12), (11,), "?", 64, (0, 0, 0), (None, None, None))
        self.check(Bath(3, 4, "." * 12), (11,), "?", 81, (0, 0, 0, 0), (None,) * 4)

    def test_everything_is_known(self):
        self.check(SIX, (0, 1, 2, 3, 4, 5), "cabefd", 1, (1, 2), (1, 2))
        self.check(SIX, (0, 1, 2, 3, 4, 5), "abcdef", 1, (0, 0), (0, 0))
        self.check(SIX, (0, 1, 2, 3, 4, 5), "abcdfe", 0, None, None)

    def test_equal_signs(self):
        self.check(Bath(4, 1, "abab"), (0,), "a", 2, (0,), (None,))
        self.check(Bath(4, 1, "abab"), (0,), "b", 2, (1,), (None,))
        self.check(Bath(4, 1, "...."), (0, 3), "..", 4, (0,), (None,))

    def test_one_column_and_one_cell(self):
        self.check(Bath(1, 5, "abcde"), (0, 1, 2, 3, 4), "abcde", 1, (0,) * 5, (0,) * 5)
        self.check(Bath(1, 5, "abcde"), (4,), "?", 1, (0,) * 5, (0,) * 5)
        self.check(Bath(1, 5, "abcde"), (4,), "a", 0, None, None)
        self.check(Bath(1, 1, "."), (0,), ".", 1, (0,), (0,))
        self.check(Bath(1, 1, "."), (0,), "?", 1, (0,), (0,))
        self.check(Bath(5, 1, "abcde"), (4,), "?", 5, (0,), (None,))

    def test_against_a_slow_way(self):
        for width, height in SIZES:
            chance = random.Random(width * 10 + height)
            for turn in range(12):
                signs = "ab." if turn % 2 else LETTERS
                bath = Bath(width, height, "".join(chance.choice(signs) for cell in range(width * height)))
                cells = some_paper_cells(chance, len(bath))
                strides = tuple(chance.randint(-9, 9) for row in range(height))
                behind = slow_behind(width, height, bath.cells, (("rake", strides),))
                text = "".join(chance.choice((behind[cell],) * 4 + ("?", "?", "a")) for cell in cells)
                rakes = slow_rakes(bath, cells, text)
                first = rakes[0] if rakes else None
                self.check(bath, cells, text, len(rakes), first, shared(rakes))


def slow_signs(bath, strides, cell, many):
    """Return the list of the signs on a cell behind 0, 1, 2 and so on rakes."""
    signs, text = [], bath.cells
    for turn in range(many):
        signs.append(text[cell])
        text = slow_behind(bath.width, bath.height, text, (("rake", strides),))
    return signs


class SeenTimes(unittest.TestCase):
    def test_some_counts(self):
        self.assertEqual([seen_times(ROW, (1,), 0, "a", count) for count in range(8)], [0, 1, 1, 1, 2, 2, 2, 3])
        self.assertEqual([seen_times(ROW, (1,), 0, "c", count) for count in range(8)], [0, 0, 1, 1, 1, 2, 2, 2])
        self.assertEqual([seen_times(ROW, (-1,), 0, "b", count) for count in range(6)], [0, 0, 1, 1, 1, 2])

    def test_very_many(self):
        self.assertEqual(seen_times(ROW, (1,), 0, "a", MOST), 333333333333333334)
        self.assertEqual(seen_times(ROW, (1,), 0, "b", MOST), 333333333333333333)
        self.assertEqual(seen_times(ROW, (1,), 0, "c", MOST), 333333333333333333)
        self.assertEqual(seen_times(ROW, (0,), 0, "a", MOST), MOST)
        self.assertEqual(seen_times(Bath(1, 1, "."), (5,), 0, ".", MOST), MOST)
        self.assertEqual(seen_times(Bath(5, 1, "a.a.a"), (9,), 2, "a", MOST), 6 * 10 ** 17)

    def test_a_sign_that_is_never_there(self):
        for count in (0, 1, MOST):
            self.assertEqual(seen_times(ROW, (1,), 0, "d", count), 0)
            self.assertEqual(seen_times(ROW, (0,), 0, "b", count), 0)
            self.assertEqual(seen_times(SIX, (1, 1), 0, "d", count), 0)

    def test_a_stride_that_shares_a_divisor_with_the_width(self):
        four = Bath(4, 1, "abcd")
        self.assertEqual([seen_times(four, (2,), 0, "a", count) for count in range(7)], [0, 1, 1, 2, 2, 3, 3])
        self.assertEqual([seen_times(four, (2,), 0, "b", count) for count in (0, 9, MOST)], [0, 0, 0])
        self.assertEqual(seen_times(four, (2,), 0, "c", MOST), MOST // 2)
        self.assertEqual(seen_times(four, (8,), 0, "a", MOST), MOST)

    def test_against_a_slow_way(self):
        for width, height in SIZES:
            chance = random.Random(width * 10 + height)
            for turn in range(6):
                bath = Bath(width, height, "".join(chance.choice("ab.") for cell in range(width * height)))
                strides = tuple(chance.randint(-9, 9) for row in range(height))
                cell = chance.randrange(len(bath))
                signs = slow_signs(bath, strides, cell, 23)
                for sign in "ab.c":
                    times = [time for time, there in enumerate(signs) if there == sign]
                    with self.subTest(bath=bath.cells, strides=strides, cell=cell, sign=sign):
                        for count in range(24):
                            self.assertEqual(
                                seen_times(bath, strides, cell, sign, count), signs[:count].count(sign))
                        for number, time in enumerate(times):
                            self.assertEqual(nth_seen(bath, strides, cell, sign, number), time)
                        if not times:
                            self.assertIsNone(nth_seen(bath, strides, cell, sign, 0))


class NthSeen(unittest.TestCase):
    def test_some_numbers(self):
        self.assertEqual([nth_seen(ROW, (1,), 0, "a", number) for number in range(4)], [0, 3, 6, 9])
        self.assertEqual([nth_seen(ROW, (1,), 0, "c", number) for number in range(4)], [1, 4, 7, 10])
        self.assertEqual([nth_seen(ROW, (-1,), 0, "b", number) for number in range(4)], [1, 4, 7, 10])
        self.assertEqual([nth_seen(Bath(3, 1, "aab"), (1,), 0, "a", number) for number in range(5)], [0, 2, 3, 5, 6])

    def test_very_great_numbers(self):
        self.assertEqual(nth_seen(ROW, (1,), 0, "a", MOST_NUMBER), 3 * MOST_NUMBER)
        self.assertEqual(nth_seen(ROW, (0,), 0, "a", MOST_NUMBER), MOST_NUMBER)
        self.assertEqual(nth_seen(Bath(3, 1, "aab"), (1,), 0, "a", MOST_NUMBER), 3 * MOST_NUMBER // 2)
        self.assertEqual(nth_seen(Bath(5, 1, "a...."), (1,), 4, "a", MOST_NUMBER), 5 * MOST_NUMBER + 4)
        self.assertEqual(nth_seen(Bath(4, 1, "abcd"), (2,), 0, "c", MOST_NUMBER), 2 * MOST_NUMBER + 1)

    def test_never(self):
        for number in (0, 1, MOST_NUMBER):
            self.assertIsNone(nth_seen(ROW, (1,), 0, "d", number))
            self.assertIsNone(nth_seen(ROW, (0,), 0, "b", number))
            self.assertIsNone(nth_seen(SIX, (1, 1), 5, "a", number))
            self.assertIsNone(nth_seen(Bath(4, 1, "abcd"), (2,), 0, "b", number))

    def test_both_agree(self):
        for number in (0, 1, 2, 10 ** 6, MOST_NUMBER - 1, MOST_NUMBER):
            for sign in "ab.":
                bath = Bath(5, 2, "aab.bb.aab")
                time = nth_seen(bath, (3, -4), 7, sign, number)
                self.assertEqual(seen_times(bath, (3, -4), 7, sign, time), number)
                self.assertEqual(seen_times(bath, (3, -4), 7, sign, time + 1), number + 1)


class ErrorsInTheirOrder(unittest.TestCase):
    def test_orders_recipe(self):
        for function in ORDERS:
            for recipe, index in WRONG_RECIPES:
                for cells in ("abcdef", ""):
                    with self.subTest(recipe), self.assertRaises(InvalidRecipe) as caught:
                        function(SIX, recipe, cells)
                    self.assertEqual(caught.exception.index, index)

    def test_orders_then_cells(self):
        for function in ORDERS:
            for text in WRONG_TEXTS:
                for many in (0, 1, 7, 12):
                    with self.subTest(text), self.assertRaises(InvalidCells):
                        function(SIX, (FINE,) * many, text)

    def test_orders_then_too_many_deeds(self):
        for function in ORDERS:
            for many in (7, 8, 12):
                for cells in ("abcdef", "zzzzzz"):
                    with self.subTest(many), self.assertRaises(TooMany):
                        function(SIX, (FINE,) * many, cells)
            with self.assertRaises(TooMany):
                function(Bath(1, 1, "a"), (("drop", 0, "a"),) * 7, "a")

    def test_rakes_cells(self):
        for function in RAKES:
            for cells in WRONG_PAPER_CELLS:
                for text in ("?" * len(cells), "", "A"):
                    with self.subTest(cells), self.assertRaises(InvalidCells):
                        function(SIX, cells, text)

    def test_rakes_then_the_text(self):
        for function in RAKES:
            for text in WRONG_GUESSES:
                with self.subTest(text), self.assertRaises(InvalidText):
                    function(SIX, (0, 1), text)

    def check_seen(self, error, bath, strides, cell, sign, number):
        for function in (seen_times, nth_seen):
            with self.subTest(strides=strides, cell=cell, sign=sign, number=number), self.assertRaises(error):
                function(bath, strides, cell, sign, number)

    def test_strides_come_first(self):
        for strides in WRONG_STRIDES:
            self.check_seen(InvalidDeed, SIX, strides, 0, "a", 1)
            self.check_seen(InvalidDeed, SIX, strides, 6, "A", -1)

    def test_then_the_cell(self):
        for cell in (-1, 6, 100, True, False):
            self.check_seen(UnknownCell, SIX, (1, 0), cell, "a", 1)
            self.check_seen(UnknownCell, SIX, (1, 0), cell, "A", -1)

    def test_then_the_sign(self):
        for sign in WRONG_SIGNS:
            self.check_seen(InvalidSign, SIX, (1, 0), 0, sign, 1)
            self.check_seen(InvalidSign, SIX, (1, 0), 0, sign, -1)

    def test_then_the_number(self):
        for number in (-1, -MOST, MOST + 1, True, False):
            for sign in "az":
                self.check_seen(InvalidNumber, SIX, (1, 0), 0, sign, number)

    def test_the_bounds_of_the_numbers(self):
        for sign in "az":
            with self.assertRaises(InvalidNumber):
                nth_seen(SIX, (1, 0), 0, sign, MOST_NUMBER + 1)
        self.assertEqual(seen_times(SIX, (1, 0), 0, "a", MOST_NUMBER + 1), 333333333333334)


class WhatIsKept(unittest.TestCase):
    def test_arguments_are_as_before_and_results_equal(self):
        bath, recipe = Bath(3, 2, "abcdef"), (FINE, ("rake", (0, 1)))
        for turn in range(2):
            self.assertEqual((orders_to(bath, recipe, "cabfde"), first_order(bath, recipe, "cabfde")), (2, (0, 1)))
            self.assertEqual((rake_count(bath, (0,), "a"), first_rake(bath, (0,), "a")), (3, (0, 0)))
            self.assertEqual(sure_strides(bath, (0,), "a"), (0, None))
            self.assertEqual((seen_times(bath, (1, 0), 0, "a", 9), nth_seen(bath, (1, 0), 0, "a", 9)), (3, 27))
            with self.assertRaises(InvalidText):
                rake_count(bath, (0,), "")
            self.assertEqual((bath, recipe), (SIX, (FINE, ("rake", (0, 1)))))

    def test_kinds(self):
        self.assertIsInstance(first_order(SIX, (FINE,), "cabdef"), tuple)
        self.assertIsInstance(first_rake(SIX, (0,), "?"), tuple)
        self.assertIsInstance(sure_strides(SIX, (0,), "?"), tuple)

    def test_papers_in_the_recipe_count_as_deeds(self):
        self.assertEqual(done(SIX, (("paper", (0,)), FINE))[0].cells, "c.bdef")
        self.assertEqual(first_order(SIX, (("paper", (0,)), FINE), "c.bdef"), (0, 1))
        self.assertEqual(first_order(SIX, (("paper", (0,)), FINE), ".abdef"), (1, 0))
