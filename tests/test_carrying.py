"""Points 17 and 18: papers that are carried to another bath, and papers that would become a text."""

import itertools
import random
import unittest

from rakedpapers.baths import Bath, done
from rakedpapers.carrying import carried, first_paper, least_carried, moments, paper_count
from rakedpapers.errors import InvalidCells, InvalidRecipe, InvalidText, UnlikeSizes
from tests.helpers import (
    FINE, SIZES, SMALL_SIZES, WRONG_PAPER_CELLS, WRONG_RECIPES, WRONG_TEXTS, all_paper_cells, slow_done,
    some_cells, some_paper_cells, some_recipes,
)

SIX = Bath(3, 2, "abcdef")
HOLES = Bath(3, 2, "u.w.y.")
OTHER_SIZES = [Bath(2, 3, "abcdef"), Bath(3, 1, "abc"), Bath(1, 2, "ab"), Bath(2, 2, "abcd"), Bath(3, 3, "abcdefghi")]

# None of these is a text of at least one sign.
NO_TEXTS = ["", "A", "aB", "a ", " ", "?", "a?", "1", "a\n", "\n", "\u00e4", "a-", "..,"]


def texts(baths):
    """Return the cells of some baths, and check what they are."""
    assert isinstance(baths, tuple) and all(isinstance(bath, Bath) for bath in baths)
    return tuple(bath.cells for bath in baths)


class Carried(unittest.TestCase):
    def test_colours_are_carried(self):
        self.assertEqual(texts(carried(SIX, HOLES, (0,))), (".bcdef", "a.w.y."))
        self.assertEqual(texts(carried(SIX, HOLES, (1, 5))), ("a.cde.", "ubw.yf"))
        self.assertEqual(texts(carried(SIX, HOLES, (0, 1, 2, 3, 4, 5))), ("......", "abcdef"))

    def test_nothing_on_the_paper_leaves_what_lay_there(self):
        self.assertEqual(texts(carried(HOLES, SIX, (1,))), ("u.w.y.", "abcdef"))
        self.assertEqual(texts(carried(HOLES, SIX, (0, 1, 2, 3, 4, 5))), ("......", "ubwdyf"))
        self.assertEqual(texts(carried(HOLES, HOLES, (0, 1))), ("..w.y.", "u.w.y."))

    def test_one_cell(self):
        for one in "ab.":
            for other in "ab.":
                wanted = (".", other if one == "." else one)
                self.assertEqual(texts(carried(Bath(1, 1, one), Bath(1, 1, other), (0,))), wanted)

    def test_one_row_and_one_column(self):
        self.assertEqual(texts(carried(Bath(5, 1, "ab.de"), Bath(5, 1, "vwxyz"), (1, 2, 4))), ("a..d.", "vbxye"))
        self.assertEqual(texts(carried(Bath(1, 5, "ab.de"), Bath(1, 5, "vwxyz"), (1, 2, 4))), ("a..d.", "vbxye"))

    def test_sizes_are_kept(self):
        for width, height in SIZES:
            one, other = Bath(width, height, "a" * (width * height)), Bath(width, height, "." * (width * height))
            for bath in carried(one, other, (0,)):
                self.assertEqual((bath.width, bath.height), (width, height))

    def test_the_one_bath_is_as_behind_the_paper(self):
        for width, height in SIZES:
            chance = random.Random(width * 10 + height)
            for turn in range(20):
                one, other = [Bath(width, height, some_cells(width, height, 2 * turn + side)) for side in (0, 1)]
                cells = some_paper_cells(chance, len(one))
                left, papers = done(one, (("paper", cells),))
                wanted = list(other.cells)
                for cell, sign in zip(cells, papers[0]):
                    wanted[cell] = wanted[cell] if sign == "." else sign
                with self.subTest(one=one.cells, other=other.cells, cells=cells):
                    self.assertEqual(texts(carried(one, other, cells)), (left.cells, "".join(wanted)))

    def test_a_bath_is_its_own_other_one(self):
        self.assertEqual(texts(carried(SIX, SIX, (2,))), ("ab.def", "abcdef"))


class LeastCarried(unittest.TestCase):
    def test_cells_that_differ(self):
        self.assertEqual(least_carried(SIX, HOLES, "abwdyf"), (0, 1, 3, 5))
        self.assertEqual(least_carried(SIX, HOLES, "u.w.yf"), (5,))
        self.assertEqual(least_carried(SIX, HOLES, "abcdef"), (0, 1, 2, 3, 4, 5))

    def test_none_needed(self):
        self.assertEqual(least_carried(SIX, HOLES, "u.w.y."), ())
        self.assertEqual(least_carried(HOLES, HOLES, "u.w.y."), ())
        self.assertEqual(least_carried(Bath(1, 1, "."), Bath(1, 1, "."), "."), ())

    def test_no_cells_do(self):
        self.assertIsNone(least_carried(SIX, HOLES, "v.w.y."))
        self.assertIsNone(least_carried(SIX, HOLES, "b.w.y."))
        self.assertIsNone(least_carried(HOLES, SIX, "a.cdef"))
        self.assertIsNone(least_carried(HOLES, SIX, ".bcdef"))
        self.assertIsNone(least_carried(Bath(1, 1, "."), Bath(1, 1, "a"), "."))

    def test_equal_colours_need_no_cell(self):
        self.assertEqual(least_carried(Bath(3, 1, "aab"), Bath(3, 1, "a.a"), "aab"), (1, 2))

    def test_against_all_tuples(self):
        for width, height in ((1, 1), (2, 1), (1, 3), (2, 2)):
            count = width * height
            for signs in itertools.product("ab.", repeat=2 * count):
                one = Bath(width, height, "".join(signs[:count]))
                other = Bath(width, height, "".join(signs[count:]))
                best = {other.cells: ()}
                for cells in sorted(all_paper_cells(count), key=len):
                    best.setdefault(carried(one, other, cells)[1].cells, cells)
                for wanted in itertools.product("abc.", repeat=count) if count < 4 else [one.cells, "ab.a", "aaaa"]:
                    text = "".join(wanted)
                    self.assertEqual(least_carried(one, other, text), best.get(text), (one.cells, other.cells, text))


class PaperCount(unittest.TestCase):
    def test_how_many_tuples(self):
        self.assertEqual(paper_count(SIX, "a"), 1)
        self.assertEqual(paper_count(SIX, "ace"), 1)
        self.assertEqual(paper_count(SIX, "abcdef"), 1)
        self.assertEqual(paper_count(Bath(4, 1, "aabb"), "ab"), 4)
        self.assertEqual(paper_count(Bath(4, 1, "abab"), "aab"), 1)
        self.assertEqual(paper_count(HOLES, "."), 3)
        self.assertEqual(paper_count(HOLES, "w.."), 1)
        self.assertEqual(paper_count(HOLES, ".."), 3)

    def test_the_greatest_trays(self):
        self.assertEqual(paper_count(Bath(4, 3, "a" * 12), "a" * 6), 924)
        self.assertEqual(paper_count(Bath(3, 4, "." * 12), "." * 12), 1)
        self.assertEqual(paper_count(Bath(4, 3, "ab" * 6), "ab"), 21)

    def test_no_tuple(self):
        self.assertEqual(paper_count(SIX, "ba"), 0)
        self.assertEqual(paper_count(SIX, "z"), 0)
        self.assertEqual(paper_count(SIX, "."), 0)
        self.assertEqual(paper_count(SIX, "aa"), 0)
        self.assertEqual(paper_count(SIX, "abcdefg"), 0)
        self.assertEqual(paper_count(SIX, "a" * 50), 0)
        self.assertEqual(paper_count(Bath(1, 1, "a"), "aa"), 0)

    def test_one_cell(self):
        self.assertEqual(paper_count(Bath(1, 1, "."), "."), 1)
        self.assertEqual(paper_count(Bath(1, 1, "."), "a"), 0)


class FirstPaper(unittest.TestCase):
    def test_the_first_tuple(self):
        self.assertEqual(first_paper(SIX, "ace"), (0, 2, 4))
        self.assertEqual(first_paper(Bath(4, 1, "abab"), "b"), (1,))
        self.assertEqual(first_paper(Bath(4, 1, "abab"), "bb"), (1, 3))
        self.assertEqual(first_paper(Bath(4, 1, "abab"), "ab"), (0, 1))
        self.assertEqual(first_paper(Bath(2, 2, "baab"), "ab"), (1, 3))
        self.assertEqual(first_paper(HOLES, ".."), (1, 3))
        self.assertEqual(first_paper(SIX, "abcdef"), (0, 1, 2, 3, 4, 5))

    def test_none(self):
        for text in ("ba", "z", ".", "aa", "abcdefg", "fa", "a" * 50):
            self.assertIsNone(first_paper(SIX, text))
        self.assertIsNone(first_paper(Bath(1, 1, "a"), "aa"))

    def test_both_against_all_tuples(self):
        for width, height in SMALL_SIZES:
            count = width * height
            for seed in range(8):
                chance = random.Random(seed)
                bath = Bath(width, height, "".join(chance.choice("ab.") for cell in range(count)))
                found = {}
                for cells in all_paper_cells(count):
                    found.setdefault("".join(bath.cells[cell] for cell in cells), []).append(cells)
                for length in range(1, count + 2):
                    for signs in itertools.product("ab.", repeat=length):
                        ways = found.get("".join(signs), [])
                        self.assertEqual(paper_count(bath, "".join(signs)), len(ways))
                        self.assertEqual(first_paper(bath, "".join(signs)), ways[0] if ways else None)


class Moments(unittest.TestCase):
    RECIPE = (("rake", (1, 0)), ("paper", (0, 1)), ("drop", 5, "z"))

    def test_numbers_of_deeds(self):
        # abcdef, cabdef, ..bdef, ..fefz
        self.assertEqual(moments(SIX, self.RECIPE, (0,), "a"), [0])
        self.assertEqual(moments(SIX, self.RECIPE, (0,), "c"), [1])
        self.assertEqual(moments(SIX, self.RECIPE, (0, 1), ".."), [2, 3])
        self.assertEqual(moments(SIX, self.RECIPE, (2, 5), "bf"), [1, 2])
        self.assertEqual(moments(SIX, self.RECIPE, (5,), "z"), [3])
        self.assertEqual(moments(SIX, self.RECIPE, (3, 4), "de"), [0, 1, 2])

    def test_the_whole_bath(self):
        self.assertEqual(moments(SIX, self.RECIPE, (0, 1, 2, 3, 4, 5), "abcdef"), [0])
        self.assertEqual(moments(SIX, self.RECIPE, (0, 1, 2, 3, 4, 5), "..fefz"), [3])

    def test_never(self):
        self.assertEqual(moments(SIX, self.RECIPE, (0,), "b"), [])
        self.assertEqual(moments(SIX, self.RECIPE, (0, 1), "ba"), [])

    def test_no_deeds(self):
        self.assertEqual(moments(SIX, (), (1, 2), "bc"), [0])
        self.assertEqual(moments(SIX, (), (1, 2), "cb"), [])
        self.assertEqual(moments(Bath(1, 1, "."), (), (0,), "."), [0])

    def test_always(self):
        self.assertEqual(moments(SIX, (FINE,) * 12, (3,), "d"), list(range(13)))
        self.assertEqual(moments(SIX, (FINE,) * 12, (0,), "a"), [0, 3, 6, 9, 12])

    def test_the_paper_would_be_laid_then_but_is_not(self):
        self.assertEqual(moments(Bath(2, 1, "ab"), (("rake", (0,)),), (0, 1), "ab"), [0, 1])

    def test_against_a_slow_way(self):
        for width, height in SIZES:
            chance = random.Random(width * 10 + height)
            for turn, recipe in enumerate(some_recipes(width, height, 10)):
                text = some_cells(width, height, turn)
                lying = [text] + slow_done(width, height, text, recipe)[0]
                for at, now in enumerate(lying):
                    cells = some_paper_cells(chance, width * height)
                    wanted = "".join(now[cell] for cell in cells)
                    times = [
                        time for time, then in enumerate(lying) if "".join(then[cell] for cell in cells) == wanted]
                    self.assertIn(at, times)
                    self.assertEqual(moments(Bath(width, height, text), recipe, cells, wanted), times)


class ErrorsInTheirOrder(unittest.TestCase):
    def test_unlike_sizes_come_first(self):
        for other in OTHER_SIZES:
            for one, two in ((SIX, other), (other, SIX)):
                for cells in ((0,), (), (9,)):
                    with self.assertRaises(UnlikeSizes):
                        carried(one, two, cells)
                for text in (one.cells, two.cells, "", "A"):
                    with self.assertRaises(UnlikeSizes):
                        least_carried(one, two, text)

    def test_cells_of_carried(self):
        for cells in WRONG_PAPER_CELLS:
            with self.subTest(cells), self.assertRaises(InvalidCells):
                carried(SIX, HOLES, cells)

    def test_cells_of_least_carried(self):
        for text in WRONG_TEXTS:
            with self.subTest(text), self.assertRaises(InvalidCells):
                least_carried(SIX, HOLES, text)

    def test_texts(self):
        for text in NO_TEXTS:
            for bath in (SIX, Bath(1, 1, "a")):
                with self.subTest(text), self.assertRaises(InvalidText):
                    paper_count(bath, text)
                with self.subTest(text), self.assertRaises(InvalidText):
                    first_paper(bath, text)

    def test_moments_recipe(self):
        for recipe, index in WRONG_RECIPES:
            for cells, text in (((0,), "a"), ((), "a"), ((0,), "")):
                with self.subTest(recipe), self.assertRaises(InvalidRecipe) as caught:
                    moments(SIX, recipe, cells, text)
                self.assertEqual(caught.exception.index, index)

    def test_moments_then_cells(self):
        for cells in WRONG_PAPER_CELLS:
            for text in ("a", "", "a" * len(cells)):
                with self.subTest(cells), self.assertRaises(InvalidCells):
                    moments(SIX, (FINE,), cells, text)

    def test_moments_then_the_text(self):
        for text in ("", "a", "abc", "a?", "A.", "a ", "aa\n"):
            with self.subTest(text), self.assertRaises(InvalidText):
                moments(SIX, (FINE,), (0, 1), text)


class WhatIsKept(unittest.TestCase):
    def test_arguments_are_as_before_and_results_equal(self):
        one, other, recipe = Bath(3, 2, "abcdef"), Bath(3, 2, "u.w.y."), (FINE,)
        for turn in range(2):
            self.assertEqual(texts(carried(one, other, (0, 1))), ("..cdef", "abw.y."))
            self.assertEqual(least_carried(one, other, "ubw.y."), (1,))
            self.assertEqual((paper_count(one, "ab"), first_paper(one, "ab")), (1, (0, 1)))
            found = moments(one, recipe, (3,), "d")
            self.assertEqual(found, [0, 1])
            found.clear()
            with self.assertRaises(InvalidCells):
                carried(one, other, ())
            self.assertEqual((one, other, recipe), (SIX, HOLES, (FINE,)))

    def test_new_baths(self):
        left, got = carried(HOLES, SIX, (1,))
        self.assertIsNot(left, HOLES)
        self.assertIsNot(got, SIX)

    def test_kinds(self):
        self.assertIsInstance(least_carried(SIX, HOLES, "abcdef"), tuple)
        self.assertIsInstance(first_paper(SIX, "ab"), tuple)
        self.assertIsInstance(moments(SIX, (), (0,), "a"), list)
