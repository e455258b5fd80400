"""Points 11, 12 and 14: fewest draws and drops, and recipes of drops."""

import itertools
import unittest

from rakedpapers.baths import Bath
from rakedpapers.errors import InvalidCells, InvalidNumber, TooMany
from rakedpapers.fewest import can_become, draw_count, fewest_draws, fewest_drops, first_drops, recipes_of_drops
from tests.helpers import (
    LARGE_SIZES, LETTERS, SMALL_SIZES, WRONG_TEXTS, all_least_draws, slow_behind, some_cells,
)

SIX = Bath(3, 2, "abcdef")
WRONG_COUNTS = [-1, 4, 10, -10 ** 18, 10 ** 18, True, False]


def texts_by_draws(width, height, cells):
    """Return a dict from all texts that draws make of one to the least number of draws."""
    draws = all_least_draws(width, height)
    found, latest, number = {cells: 0}, [cells], 0
    while latest:
        number += 1
        made = {slow_behind(width, height, text, (draw,)) for text in latest for draw in draws}
        latest = sorted(made - set(found))
        found.update({text: number for text in latest})
    return found


def texts_by_drops(width, height, cells, letters):
    """Return for 0 to 3 drops a dict from the texts that they make to the first such tuple of drops."""
    drops = list(itertools.product(range(width * height), letters))
    layers = [{cells: ()}]
    for count in range(3):
        layer = {}
        for text, ahead in layers[-1].items():
            for drop in drops:
                made = slow_behind(width, height, text, (("drop",) + drop,))
                way = ahead + (drop,)
                layer[made] = min(layer.get(made, way), way)
        layers.append(layer)
    return layers


def tuples_of_drops(width, height, counted):
    """Return for 0 to 3 drops a dict from the texts that they make of nothing to the number of tuples.

    The letter z stands for all that are not counted, so only texts without it have the right number.
    """
    drops = [(cell, letter, 1) for cell in range(width * height) for letter in counted]
    drops += [(cell, "z", 26 - len(counted)) for cell in range(width * height)]
    layers = [{"." * (width * height): 1}]
    for count in range(3):
        layer = {}
        for text, number in layers[-1].items():
            for cell, letter, weight in drops:
                made = slow_behind(width, height, text, (("drop", cell, letter),))
                layer[made] = layer.get(made, 0) + number * weight
        layers.append(layer)
    return layers


class Draws(unittest.TestCase):
    def test_how_many_baths(self):
        self.assertEqual(draw_count(Bath(1, 1, "a")), 1)
        self.assertEqual(draw_count(Bath(2, 1, "ab")), 2)
        self.assertEqual(draw_count(Bath(1, 2, "ab")), 2)
        self.assertEqual(draw_count(Bath(5, 1, "abcde")), 5)
        self.assertEqual(draw_count(Bath(1, 5, "abcde")), 5)
        self.assertEqual(draw_count(Bath(2, 2, "abcd")), 24)
        self.assertEqual(draw_count(SIX), 720)
        self.assertEqual(draw_count(Bath(2, 3, "abcdef")), 720)

    def test_equal_signs_make_fewer(self):
        self.assertEqual(draw_count(Bath(3, 2, "......")), 1)
        self.assertEqual(draw_count(Bath(3, 2, "a.....")), 6)
        self.assertEqual(draw_count(Bath(3, 2, "aabbcc")), 90)
        self.assertEqual(draw_count(Bath(2, 2, "aabb")), 6)
        self.assertEqual(draw_count(Bath(4, 1, "abab")), 2)
        self.assertEqual(draw_count(Bath(1, 4, "a.a.")), 2)

    def test_which_baths(self):
        self.assertIs(can_become(Bath(3, 1, "abc"), "cab"), True)
        self.assertIs(can_become(Bath(3, 1, "abc"), "acb"), False)
        self.assertIs(can_become(Bath(1, 3, "abc"), "bca"), True)
        self.assertIs(can_become(Bath(1, 3, "abc"), "bac"), False)
        self.assertIs(can_become(Bath(2, 2, "abcd"), "acbd"), True)
        self.assertIs(can_become(Bath(2, 2, "abcd"), "abcc"), False)
        self.assertIs(can_become(Bath(1, 1, "a"), "a"), True)
        self.assertIs(can_become(Bath(1, 1, "a"), "."), False)
        self.assertIs(can_become(SIX, "abcdez"), False)

    def test_the_least_number(self):
        self.assertEqual(fewest_draws(SIX, "abcdef"), 0)
        self.assertEqual(fewest_draws(SIX, "cabefd"), 1)
        self.assertEqual(fewest_draws(SIX, "dbfaec"), 1)
        self.assertEqual(fewest_draws(Bath(2, 2, "abcd"), "dcba"), 2)
        self.assertEqual(fewest_draws(Bath(5, 1, "abcde"), "cdeab"), 1)
        self.assertEqual(fewest_draws(Bath(1, 1, "."), "."), 0)

    def test_none(self):
        self.assertIsNone(fewest_draws(Bath(2, 2, "abcd"), "aabb"))
        self.assertIsNone(fewest_draws(Bath(3, 1, "abc"), "acb"))
        self.assertIsNone(fewest_draws(Bath(1, 1, "a"), "b"))
        self.assertIsNone(fewest_draws(Bath(2, 1, "a."), "ab"))

    def check_all(self, width, height, cells, others):
        bath, found = Bath(width, height, cells), texts_by_draws(width, height, cells)
        with self.subTest(width=width, height=height, cells=cells):
            self.assertEqual(draw_count(bath), len(found))
            for other in others:
                self.assertEqual(fewest_draws(bath, other), found.get(other))
                self.assertIs(can_become(bath, other), other in found)

    def test_against_a_slow_way(self):
        for width, height in SMALL_SIZES:
            cells = LETTERS[:width * height]
            others = ["".join(signs) for signs in itertools.permutations(cells)]
            self.check_all(width, height, cells, others[::7] + others[-1:])
            for cells in (("aab.bc" * 2)[:width * height], (".a....")[:width * height]):
                others = sorted({"".join(signs) for signs in itertools.permutations(cells)})
                self.check_all(width, height, cells, others[::3] + others[-1:])

    def test_every_bath_of_up_to_six_cells_gets_an_answer(self):
        for width, height in SMALL_SIZES:
            for seed in range(3):
                bath = Bath(width, height, some_cells(width, height, seed))
                self.assertGreaterEqual(draw_count(bath), 1)
                self.assertEqual(fewest_draws(bath, bath.cells), 0)


class Drops(unittest.TestCase):
    def test_the_least_number(self):
        still = Bath(3, 1, "...")
        self.assertEqual(fewest_drops(still, "...", 0), 0)
        self.assertEqual(fewest_drops(still, "...", 3), 0)
        self.assertEqual(fewest_drops(still, ".a.", 3), 1)
        self.assertEqual(fewest_drops(still, ".a.", 1), 1)
        self.assertEqual(fewest_drops(still, "aba", 2), 2)
        self.assertEqual(fewest_drops(still, "bab", 3), 2)
        self.assertEqual(fewest_drops(Bath(1, 1, "a"), "b", 3), 1)
        self.assertEqual(fewest_drops(Bath(1, 1, "a"), "a", 3), 0)

    def test_corners_and_edges(self):
        self.assertEqual(fewest_drops(Bath(2, 2, "abcd"), "zaad", 3), 1)
        self.assertEqual(fewest_drops(SIX, "bczdec", 1), 1)
        self.assertEqual(first_drops(SIX, "bczdec", 3), ((2, "z"),))
        self.assertEqual(first_drops(SIX, "bzbdbf", 3), ((1, "z"),))
        self.assertEqual(first_drops(SIX, "abfefz", 3), ((5, "z"),))
        self.assertEqual(first_drops(SIX, "dbczde", 3), ((3, "z"),))

    def test_not_enough(self):
        for bath, cells, most in (
            (Bath(3, 1, "..."), "aba", 1), (Bath(3, 1, "..."), ".a.", 0), (Bath(1, 1, "a"), ".", 3),
            (Bath(1, 1, "a"), "b", 0), (Bath(3, 2, "......"), "abcdef", 3), (Bath(5, 1, "abcde"), "vwxyz", 3),
        ):
            with self.subTest(cells):
                self.assertIsNone(fewest_drops(bath, cells, most))
                self.assertIsNone(first_drops(bath, cells, most))

    def test_three_colours_need_three_drops(self):
        for still in (Bath(5, 1, "....."), Bath(1, 5, ".....")):
            self.assertEqual(fewest_drops(still, "xyzyx", 3), 3)
            self.assertEqual(first_drops(still, "xyzyx", 3), ((2, "x"), (2, "y"), (2, "z")))
            self.assertIsNone(fewest_drops(still, "xyzyx", 2))

    def test_the_first_tuple(self):
        self.assertEqual(first_drops(Bath(1, 1, "a"), "a", 3), ())
        self.assertEqual(first_drops(Bath(1, 1, "a"), "a", 0), ())
        self.assertEqual(first_drops(Bath(1, 1, "a"), "z", 3), ((0, "z"),))
        self.assertEqual(first_drops(Bath(3, 1, "..."), "aba", 3), ((1, "a"), (1, "b")))
        self.assertEqual(first_drops(Bath(3, 1, "..."), ".a.", 1), ((1, "a"),))

    def test_a_drop_that_is_lost_has_the_first_letter(self):
        self.assertEqual(first_drops(Bath(2, 1, "bc"), "bd", 3), ((0, "a"), (1, "d")))

    def test_a_letter_comes_ahead_of_the_next_cell(self):
        # In each of these the drops on the first cells in tuple order are not the first drops.
        self.assertEqual(first_drops(Bath(3, 1, "..."), "a.b", 3), ((1, "a"), (2, "b")))
        self.assertEqual(first_drops(Bath(1, 3, "..."), "a.b", 3), ((1, "a"), (2, "b")))
        self.assertEqual(first_drops(Bath(2, 2, "abcd"), "aaab", 3), ((3, "a"), (3, "b")))
        self.assertEqual(first_drops(SIX, "eafaef", 3), ((0, "a"), (5, "a"), (3, "a")))

    def check_all(self, width, height, cells, letters):
        layers = texts_by_drops(width, height, cells, letters)
        bath = Bath(width, height, cells)
        others = sorted({"".join(signs) for signs in itertools.product(letters + ".", repeat=width * height)})
        chosen = others[::len(others) // 40 + 1]
        for layer in layers:
            reached = sorted(layer)
            chosen = chosen + reached[::len(reached) // 20 + 1]
        for other in chosen:
            counts = [count for count in range(4) if other in layers[count]]
            for most in range(4):
                with self.subTest(width=width, height=height, cells=cells, other=other, most=most):
                    enough = [count for count in counts if count <= most]
                    self.assertEqual(fewest_drops(bath, other, most), min(enough, default=None))
                    wanted = layers[enough[0]][other] if enough else None
                    self.assertEqual(first_drops(bath, other, most), wanted)

    def test_against_a_slow_way(self):
        for width, height in SMALL_SIZES:
            letters = "abc" if width * height < 5 else "ab"
            for cells in ("......", "b.aab."):
                self.check_all(width, height, cells[:width * height], letters)

    def test_every_bath_of_up_to_six_cells_gets_an_answer(self):
        for width, height in SMALL_SIZES:
            for seed in range(3):
                bath = Bath(width, height, some_cells(width, height, seed))
                other = some_cells(width, height, seed + 3)
                number = fewest_drops(bath, other, 3)
                self.assertIn(number, (None, 0, 1, 2, 3))
                self.assertEqual(number is None, first_drops(bath, other, 3) is None)


class RecipesOfDrops(unittest.TestCase):
    def test_no_drops(self):
        self.assertEqual(recipes_of_drops(Bath(1, 1, "."), 0), 1)
        self.assertEqual(recipes_of_drops(Bath(3, 2, "......"), 0), 1)
        self.assertEqual(recipes_of_drops(Bath(1, 1, "a"), 0), 0)
        self.assertEqual(recipes_of_drops(Bath(3, 2, "a....."), 0), 0)

    def test_any_letters_of_drops_that_are_lost(self):
        self.assertEqual(recipes_of_drops(Bath(1, 1, "a"), 1), 1)
        self.assertEqual(recipes_of_drops(Bath(1, 1, "a"), 2), 26)
        self.assertEqual(recipes_of_drops(Bath(1, 1, "z"), 3), 26 * 26)
        self.assertEqual(recipes_of_drops(Bath(2, 1, "a."), 1), 1)
        self.assertEqual(recipes_of_drops(Bath(2, 1, "a."), 2), 26)

    def test_what_drops_cannot_make(self):
        for count in (1, 2, 3):
            self.assertEqual(recipes_of_drops(Bath(1, 1, "."), count), 0)
            self.assertEqual(recipes_of_drops(Bath(3, 2, "......"), count), 0)
            self.assertEqual(recipes_of_drops(Bath(3, 2, "abcdef"), count), 0)

    def test_all_recipes_are_counted(self):
        texts = ["".join(signs) for signs in itertools.product(LETTERS + ".", repeat=2)]
        for width, height in ((2, 1), (1, 2)):
            for count in range(4):
                total = sum(recipes_of_drops(Bath(width, height, text), count) for text in texts)
                self.assertEqual(total, 52 ** count)

    def test_against_a_slow_way(self):
        for width, height in SMALL_SIZES:
            for count, layer in enumerate(tuples_of_drops(width, height, "ab")):
                texts = sorted(text for text in layer if "z" not in text)
                texts = texts[::len(texts) // 40 + 1] + ["a" * (width * height), "." * (width * height)]
                for text in texts:
                    with self.subTest(width=width, height=height, count=count, text=text):
                        self.assertEqual(recipes_of_drops(Bath(width, height, text), count), layer.get(text, 0))


class ErrorsInTheirOrder(unittest.TestCase):
    def test_cells_come_first(self):
        for cells in WRONG_TEXTS:
            for call in (can_become, fewest_draws):
                with self.subTest(call=call, cells=cells), self.assertRaises(InvalidCells):
                    call(SIX, cells)
            for call in (fewest_drops, first_drops):
                for most in (3, 4, True):
                    with self.subTest(call=call, cells=cells, most=most), self.assertRaises(InvalidCells):
                        call(SIX, cells, most)

    def test_cells_come_ahead_of_too_many(self):
        for width, height in LARGE_SIZES:
            bath = Bath(width, height, "a" * (width * height))
            for cells in ("", "a" * 6, "a" * (width * height - 1), "A" * (width * height)):
                for call in (can_become, fewest_draws):
                    with self.subTest(call=call, cells=cells), self.assertRaises(InvalidCells):
                        call(bath, cells)
                for call in (fewest_drops, first_drops):
                    with self.subTest(call=call, cells=cells), self.assertRaises(InvalidCells):
                        call(bath, cells, 4)

    def test_then_the_number(self):
        large = Bath(4, 2, "........")
        for number in WRONG_COUNTS:
            for bath in (SIX, large):
                for call in (fewest_drops, first_drops):
                    with self.subTest(call=call, number=number), self.assertRaises(InvalidNumber):
                        call(bath, bath.cells, number)
                with self.subTest(number), self.assertRaises(InvalidNumber):
                    recipes_of_drops(bath, number)

    def test_then_too_many_cells(self):
        for width, height in LARGE_SIZES:
            bath = Bath(width, height, "a" * (width * height))
            with self.subTest(width=width, height=height):
                with self.assertRaises(TooMany):
                    draw_count(bath)
                for call in (can_become, fewest_draws):
                    with self.assertRaises(TooMany):
                        call(bath, bath.cells)
                for count in range(4):
                    for call in (fewest_drops, first_drops):
                        with self.assertRaises(TooMany):
                            call(bath, bath.cells, count)
                    with self.assertRaises(TooMany):
                        recipes_of_drops(bath, count)


class WhatIsKept(unittest.TestCase):
    def test_arguments_are_as_before_and_results_equal(self):
        bath = Bath(3, 2, "abcdef")
        for turn in range(2):
            self.assertEqual(draw_count(bath), 720)
            self.assertIs(can_become(bath, "cabdef"), True)
            self.assertEqual(fewest_draws(bath, "cabdef"), 1)
            self.assertEqual(fewest_drops(bath, "bzbdbf", 3), 1)
            self.assertEqual(first_drops(bath, "bzbdbf", 3), ((1, "z"),))
            self.assertEqual(recipes_of_drops(bath, 2), 0)
            self.assertEqual(bath, SIX)
