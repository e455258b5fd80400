"""Point 13: which drops can have been the last ones, and what lay ahead of them."""

import itertools
import unittest

from rakedpapers.baths import Bath, done
from rakedpapers.errors import InvalidColours, NoDrop, UnknownCell
from rakedpapers.lasting import ahead_count, first_ahead, last_drops
from tests.helpers import LETTERS, SIZES, slow_behind, some_cells

SIX = Bath(3, 2, "abcdef")
WRONG_COLOURS = ["", ".", "a.", ".a", "aa", "aba", "abcb", "A", "aB", "a b", "a?", "a1", "a\n", "\u00e4", "-",
                 LETTERS + "a", LETTERS + "."]
WRONG_CELLS = [-1, 6, 12, 10 ** 18, True, False]


def baths_ahead(width, height, signs):
    """Return a dict from texts and cells to the ascending texts of these signs that a drop makes into them there."""
    found = {}
    for cells in itertools.product(sorted(signs), repeat=width * height):
        ahead = "".join(cells)
        for cell in range(width * height):
            for colour in signs.replace(".", ""):
                text = slow_behind(width, height, ahead, (("drop", cell, colour),))
                found.setdefault((text, cell), []).append(ahead)
    return found


class LastDrops(unittest.TestCase):
    def test_one_cell(self):
        self.assertEqual(last_drops(Bath(1, 1, "a")), (0,))
        self.assertEqual(last_drops(Bath(1, 1, ".")), ())

    def test_one_row_and_one_column(self):
        for width, height in ((3, 1), (1, 3)):
            self.assertEqual(last_drops(Bath(width, height, "aba")), (0, 1, 2))
            self.assertEqual(last_drops(Bath(width, height, "abc")), (0, 2))
            self.assertEqual(last_drops(Bath(width, height, ".b.")), (1,))
            self.assertEqual(last_drops(Bath(width, height, "b..")), (0,))
            self.assertEqual(last_drops(Bath(width, height, "bb.")), (0,))
        self.assertEqual(last_drops(Bath(5, 1, "abcbd")), (0, 2, 4))

    def test_corners_edges_and_amid(self):
        self.assertEqual(last_drops(Bath(3, 3, "abcdefghi")), ())
        self.assertEqual(last_drops(Bath(3, 3, "abcbefghi")), (0,))
        self.assertEqual(last_drops(Bath(3, 3, "abcdefgfi")), (8,))
        self.assertEqual(last_drops(Bath(3, 3, "abadaaghi")), (1,))
        self.assertEqual(last_drops(Bath(3, 3, "axcxexgxi")), (0, 2, 4, 6, 8))
        self.assertEqual(last_drops(Bath(3, 3, "axcxexgyi")), (0, 2))

    def test_nothing_lies_there(self):
        self.assertEqual(last_drops(Bath(4, 3, "." * 12)), ())
        self.assertEqual(last_drops(Bath(4, 3, "." * 5 + "a" + "." * 6)), (5,))
        self.assertEqual(last_drops(Bath(3, 4, "a" * 12)), tuple(range(12)))
        self.assertEqual(last_drops(Bath(3, 1, "a.a")), (0, 2))

    def test_a_drop_can_have_been_the_last(self):
        for width, height in SIZES:
            for seed in range(5):
                cells = some_cells(width, height, seed)
                for cell in range(width * height):
                    bath = done(Bath(width, height, cells), (("drop", cell, "q"),))[0]
                    with self.subTest(bath=bath.cells, cell=cell):
                        self.assertIn(cell, last_drops(bath))
                        self.assertGreaterEqual(ahead_count(bath, cell, LETTERS), 1)


class Ahead(unittest.TestCase):
    def check(self, bath, cell, colours, count, first):
        with self.subTest(bath=bath.cells, cell=cell, colours=colours):
            self.assertEqual(ahead_count(bath, cell, colours), count)
            self.assertEqual(first_ahead(bath, cell, colours), first)

    def test_one_cell(self):
        self.check(Bath(1, 1, "a"), 0, "a", 2, ".")
        self.check(Bath(1, 1, "a"), 0, "b", 2, ".")
        self.check(Bath(1, 1, "a"), 0, LETTERS, 27, ".")

    def test_one_row_and_one_column(self):
        for width, height in ((3, 1), (1, 3)):
            bath = Bath(width, height, "aba")
            self.check(bath, 1, "ab", 9, ".a.")
            self.check(bath, 1, "a", 4, ".a.")
            self.check(bath, 1, "b", 0, None)
            self.check(bath, 0, "ab", 3, "ba.")
            self.check(bath, 2, "ba", 3, ".ab")
            self.check(bath, 0, "b", 0, None)

    def test_nothing_can_always_have_lain_there(self):
        self.check(Bath(3, 1, ".b."), 1, "x", 4, "...")
        self.check(Bath(2, 2, "b..."), 0, "x", 4, "....")
        self.check(Bath(2, 2, "b..c"), 0, "x", 0, None)
        self.check(Bath(2, 2, "b..c"), 0, "c", 4, "...c")

    def test_the_colour_of_the_drop_need_not_be_among_them(self):
        self.check(Bath(2, 1, "ba"), 0, "a", 2, "a.")
        self.check(Bath(2, 1, "ba"), 0, "b", 0, None)

    def test_corners_edges_and_amid(self):
        self.check(Bath(3, 3, "axcxexgxi"), 4, LETTERS, 27 ** 4, "a.c.x.g.i")
        self.check(Bath(3, 3, "axcxexgxi"), 0, LETTERS, 27 ** 2, "xc.gex.xi")
        self.check(Bath(3, 3, "axcxexgxi"), 8, LETTERS, 27 ** 2, "ax.xec.gx")
        self.check(Bath(3, 3, "abadaaghi"), 1, "adghi", 6 ** 3, ".a.dhag.i")
        self.check(Bath(3, 3, "abadaaghi"), 1, "adgi", 0, None)

    def test_the_greatest_trays(self):
        self.check(Bath(4, 3, "abcdbebfgbhi"), 5, LETTERS, 27 ** 4, "a.cd.bf.g.hi")
        self.check(Bath(3, 4, "abcbdbebfghi"), 4, LETTERS, 27 ** 4, "a.c.b.ehfg.i")
        self.check(Bath(4, 3, "abcdbebfgbhi"), 5, "abcdefgh", 0, None)

    def test_the_order_of_the_colours_does_not_matter(self):
        for colours in itertools.permutations("abc"):
            self.check(Bath(3, 1, "aba"), 0, "".join(colours), 4, "ba.")

    def test_against_a_slow_way(self):
        for width, height, signs in (
            (1, 1, ".abc"), (2, 1, ".abc"), (1, 2, ".abc"), (3, 1, ".abc"), (1, 3, ".abc"), (2, 2, ".abc"),
            (5, 1, ".ab"), (1, 5, ".ab"), (3, 2, ".ab"), (2, 3, ".ab"), (3, 3, ".a"),
        ):
            found = baths_ahead(width, height, signs)
            texts = ["".join(cells) for cells in itertools.product(signs, repeat=width * height)]
            for text in texts[::len(texts) // 120 + 1]:
                self.check_all(Bath(width, height, text), signs, found)

    def check_all(self, bath, signs, found):
        cells = tuple(cell for cell in range(len(bath)) if (bath.cells, cell) in found)
        with self.subTest(bath=bath.cells):
            self.assertEqual(last_drops(bath), cells)
            for cell in cells:
                for size in range(1, len(signs)):
                    for colours in itertools.combinations(signs[1:], size):
                        ahead = [one for one in found[bath.cells, cell] if set(one) <= {".", *colours}]
                        self.assertEqual(ahead_count(bath, cell, "".join(colours)), len(ahead))
                        self.assertEqual(first_ahead(bath, cell, "".join(colours)), min(ahead, default=None))


class ErrorsInTheirOrder(unittest.TestCase):
    def test_the_cell_comes_first(self):
        for call in (ahead_count, first_ahead):
            for cell in WRONG_CELLS:
                for colours in ("a", "", "aa", "."):
                    with self.subTest(call=call, cell=cell, colours=colours), self.assertRaises(UnknownCell):
                        call(SIX, cell, colours)

    def test_then_the_colours(self):
        for call in (ahead_count, first_ahead):
            for bath in (SIX, Bath(3, 2, "......"), Bath(3, 2, "aaaaaa")):
                for colours in WRONG_COLOURS:
                    with self.subTest(call=call, bath=bath.cells, colours=colours), self.assertRaises(InvalidColours):
                        call(bath, 0, colours)

    def test_then_no_drop(self):
        for call in (ahead_count, first_ahead):
            for bath, cell in (
                (SIX, 0), (SIX, 5), (Bath(3, 1, "abc"), 1), (Bath(1, 1, "."), 0), (Bath(3, 1, "..."), 1),
                (Bath(3, 1, "a.a"), 1), (Bath(3, 1, ".bc"), 1),
            ):
                for colours in ("abc", "z", LETTERS):
                    with self.subTest(call=call, bath=bath.cells, cell=cell), self.assertRaises(NoDrop):
                        call(bath, cell, colours)

    def test_all_letters_are_colours(self):
        self.assertEqual(ahead_count(Bath(1, 1, "z"), 0, LETTERS), 27)
        self.assertEqual(ahead_count(Bath(1, 1, "z"), 0, LETTERS[::-1]), 27)
        for letter in LETTERS:
            self.assertEqual(ahead_count(Bath(1, 1, "z"), 0, letter), 2)


class WhatIsKept(unittest.TestCase):
    def test_arguments_are_as_before_and_results_equal(self):
        bath = Bath(3, 1, "aba")
        for turn in range(2):
            self.assertEqual(last_drops(bath), (0, 1, 2))
            self.assertEqual(ahead_count(bath, 1, "ab"), 9)
            self.assertEqual(first_ahead(bath, 1, "ab"), ".a.")
            with self.assertRaises(UnknownCell):
                ahead_count(bath, 3, "ab")
            self.assertEqual(bath, Bath(3, 1, "aba"))

    def test_kinds(self):
        self.assertIsInstance(last_drops(SIX), tuple)
        self.assertIsInstance(first_ahead(Bath(1, 1, "a"), 0, "a"), str)
