"""Points 26 and 27: baths, recipes and sources as texts."""

import random
import unittest

from rakedpapers.baths import Bath
from rakedpapers.errors import InvalidLine, InvalidRecipe, InvalidSize
from rakedpapers.notation import drawing, read_recipe, recipe_text, source_map
from rakedpapers.origins import sources
from tests.helpers import (
    LETTERS, SIZES, WRONG_RECIPES, WRONG_SIZES, some_cells, some_recipes,
)

SIX = Bath(3, 2, "abcdef")
TWELVE = Bath(4, 3, LETTERS[:12])

# None of these is a number of one or two digits without a needless zero.
NO_NUMBERS = ["", "-0", "00", "01", "000", "001", "100", "+1", "1.", "a", "x1", "1x", ".", "\t", "0\t", "1,", "1_1",
              "\u0661", "\u00b2", "\u0967", "--1", "-", "1-", "0x1", "ten", "\r", "1\r", "?"]
# None of these is a stride.
NO_STRIDES = NO_NUMBERS + ["10", "99", "-10", "-99", "-01", "-00", "-a", "-_1", "--0", "-\u0661"]
# None of these is a letter.
NO_LETTERS = ["", "A", "ab", "0", ".", "?", "\u00e4", "x\t", "-", "12"]


class Drawing(unittest.TestCase):
    def test_rows(self):
        self.assertEqual(drawing(SIX), "abc\ndef")
        self.assertEqual(drawing(Bath(2, 3, "ab.d.f")), "ab\n.d\n.f")
        self.assertEqual(drawing(Bath(1, 1, ".")), ".")
        self.assertEqual(drawing(Bath(5, 1, "abcde")), "abcde")
        self.assertEqual(drawing(Bath(1, 5, "abcde")), "a\nb\nc\nd\ne")
        self.assertEqual(drawing(TWELVE), "abcd\nefgh\nijkl")
        self.assertEqual(drawing(Bath(3, 4, "." * 12)), "...\n...\n...\n...")


class RecipeText(unittest.TestCase):
    def test_rows(self):
        self.assertEqual(recipe_text(()), "")
        self.assertEqual(recipe_text((("drop", 11, "x"),)), "drop 11 x")
        self.assertEqual(recipe_text((("rake", (1, 0, -9)),)), "rake 1 0 -9")
        self.assertEqual(recipe_text((("comb", (9,)),)), "comb 9")
        self.assertEqual(recipe_text((("paper", (0,)),)), "paper 0")
        self.assertEqual(
            recipe_text((("drop", 0, "x"), ("rake", (1, -2)), ("comb", (0, 0)), ("paper", (0, 3)))),
            "drop 0 x\nrake 1 -2\ncomb 0 0\npaper 0 3")

    def test_twelve_rows(self):
        self.assertEqual(recipe_text((("comb", (-1,)),) * 12), "\n".join(["comb -1"] * 12))


class ReadRecipe(unittest.TestCase):
    def test_no_rows(self):
        self.assertEqual(read_recipe(SIX, ""), ())

    def test_rows(self):
        self.assertEqual(
            read_recipe(SIX, "drop 0 x\nrake 1 -2\ncomb 0 9 -9\npaper 0 3 5"),
            (("drop", 0, "x"), ("rake", (1, -2)), ("comb", (0, 9, -9)), ("paper", (0, 3, 5))))
        self.assertEqual(read_recipe(TWELVE, "drop 11 z\npaper 10 11"), (("drop", 11, "z"), ("paper", (10, 11))))
        self.assertEqual(
            read_recipe(TWELVE, "paper 0 1 2 3 4 5 6 7 8 9 10 11"), (("paper", tuple(range(12))),))
        self.assertEqual(read_recipe(Bath(1, 1, "."), "rake 0\ncomb -1"), (("rake", (0,)), ("comb", (-1,))))

    def test_twelve_rows(self):
        self.assertEqual(read_recipe(SIX, "\n".join(["rake 1 0"] * 12)), (("rake", (1, 0)),) * 12)

    def test_texts_of_recipes_are_read(self):
        for width, height in SIZES:
            bath = Bath(width, height, some_cells(width, height))
            for recipe in some_recipes(width, height, 20):
                self.assertEqual(read_recipe(bath, recipe_text(recipe)), recipe)

    def test_all_strides(self):
        for stride in range(-9, 10):
            self.assertEqual(read_recipe(SIX, f"rake 0 {stride}"), (("rake", (0, stride)),))
            self.assertEqual(read_recipe(SIX, f"comb {stride} 0 1"), (("comb", (stride, 0, 1)),))

    def test_all_cells_and_letters(self):
        for cell in range(12):
            for letter in LETTERS:
                self.assertEqual(read_recipe(TWELVE, f"drop {cell} {letter}"), (("drop", cell, letter),))
            self.assertEqual(read_recipe(TWELVE, f"paper {cell}"), (("paper", (cell,)),))

    def test_kinds(self):
        recipe = read_recipe(SIX, "paper 0 1")
        self.assertIsInstance(recipe, tuple)
        self.assertIsInstance(recipe[0], tuple)
        self.assertIsInstance(recipe[0][1], tuple)


class InvalidLines(unittest.TestCase):
    def check(self, text, row, word, bath=SIX):
        for ahead in (0, 1, 3, 11):
            whole = "\n".join(["drop 5 z"] * ahead + [text]) if bath == SIX else text
            for behind in ("", "\n", "\nrake", "\ndrop 0 a"):
                with self.subTest(whole + behind), self.assertRaises(InvalidLine) as caught:
                    read_recipe(bath, whole + behind)
                wanted = (row + (ahead if bath == SIX else 0), word)
                self.assertEqual((caught.exception.row, caught.exception.word), wanted)

    def test_first_words(self):
        for word in ("x", "Drop", "drops", "dropp", "show", "repeat", "when", "end", "0", "-1", "rake,", "\tdrop",
                     "drop\t0\tx", "drop\r", "keep_as"):
            self.check(word, 0, 0)
            self.check(word + " 0 x", 0, 0)
        self.check("rak 1 0", 0, 0)

    def test_empty_rows_and_blanks(self):
        self.check(" ", 0, 0)
        self.check("  ", 0, 0)
        self.check(" drop 0 x", 0, 0)
        self.check("drop  0 x", 0, 1)
        self.check("drop 0  x", 0, 2)
        self.check("drop 0 x ", 0, 3)
        self.check("drop 0 x  ", 0, 3)
        self.check("drop ", 0, 1)
        self.check("drop 0 ", 0, 2)
        self.check("rake 1 ", 0, 2)
        self.check("rake 1 0 ", 0, 3)
        self.check("rake  1 0", 0, 1)
        self.check("comb 0 0  0", 0, 3)
        self.check("paper ", 0, 1)
        self.check("paper 1 ", 0, 2)
        self.check("paper 1  2", 0, 2)

    def check_one(self, text, row, word):
        with self.subTest(text), self.assertRaises(InvalidLine) as caught:
            read_recipe(SIX, text)
        self.assertEqual((caught.exception.row, caught.exception.word), (row, word))

    def test_rows_without_words(self):
        self.check_one("\n", 0, 0)
        self.check_one("\n\n", 0, 0)
        self.check_one("\ndrop 0 x", 0, 0)
        self.check_one("drop 0 x\n", 1, 0)
        self.check_one("drop 0 x\n\nrake 1 0", 1, 0)
        self.check_one("drop 0 x\r\nrake 1 0", 0, 2)

    def test_missing_words(self):
        self.check("drop", 0, 1)
        self.check("drop 0", 0, 2)
        self.check("rake", 0, 1)
        self.check("rake 1", 0, 2)
        self.check("comb", 0, 1)
        self.check("comb 1", 0, 2)
        self.check("comb 1 2", 0, 3)
        self.check("paper", 0, 1)

    def test_superfluous_words(self):
        self.check("drop 0 x x", 0, 3)
        self.check("drop 0 x 1 2", 0, 3)
        self.check("rake 1 0 0", 0, 3)
        self.check("rake 1 0 x y", 0, 3)
        self.check("comb 1 0 0 0", 0, 4)
        self.check("comb 1 0 0 drop", 0, 4)
        self.check("paper 0 1 2 3 4 5 6", 0, 7)
        self.check("paper 0 x", 0, 2)

    def test_cells(self):
        for word in NO_NUMBERS + ["-1", "6", "12", "99", "10"]:
            self.check(f"drop {word} x", 0, 1)
            self.check(f"drop {word}", 0, 1)
            self.check(f"drop {word} X Y", 0, 1)
            self.check(f"paper {word}", 0, 1)
            self.check(f"paper {word} 0", 0, 1)
            self.check(f"paper 0 {word} 2", 0, 2)
            self.check(f"paper 0 1 5 {word}", 0, 4)
        self.check("drop 12 x", 0, 1, TWELVE)
        self.check("paper 9 10 12", 0, 3, TWELVE)
        self.check("drop 1 x", 0, 1, Bath(1, 1, "."))

    def test_cells_ascend(self):
        self.check("paper 0 0", 0, 2)
        self.check("paper 1 0", 0, 2)
        self.check("paper 0 2 1 3", 0, 3)
        self.check("paper 0 2 2", 0, 3)
        self.check("paper 5 4 4", 0, 2)
        self.check("paper 10 9", 0, 2, TWELVE)
        self.check("paper 2 10 9", 0, 3, TWELVE)

    def test_letters(self):
        for word in NO_LETTERS:
            self.check(f"drop 0 {word}", 0, 2)
            self.check(f"drop 0 {word} x", 0, 2)

    def test_strides(self):
        for word in NO_STRIDES:
            self.check(f"rake {word} 0", 0, 1)
            self.check(f"rake {word}", 0, 1)
            self.check(f"rake 0 {word}", 0, 2)
            self.check(f"rake 0 {word} 0", 0, 2)
            self.check(f"comb 0 1 {word}", 0, 3)
            self.check(f"comb {word} {word} 1", 0, 1)

    def test_the_thirteenth_row(self):
        for row in ("rake 1 0", "", "drop", "drop 0 X", "x"):
            for more in ([], ["rake 1 0"], [""]):
                self.check_one("\n".join(["rake 1 0"] * 12 + [row] + more), 12, 0)
        self.check_one("\n".join(["rake 1 0"] * 11 + ["rake 1", "rake 1 0"]), 11, 2)
        self.check_one("\n".join(["rake 1 0"] * 5 + ["rake 1 0 0"] + ["x"] * 10), 5, 3)
        self.check_one("\n".join(["rake 1 0"] * 13), 12, 0)

    def test_the_first_of_several(self):
        self.check_one("drop 0 x\nrake 1\ndrop 9 A", 1, 2)
        self.check_one("rake 1 0\ndrop 9 A x\nrake", 1, 1)
        self.check_one("paper 0 1\npaper 1 0 0\nx", 1, 2)
        self.check_one("x\ny", 0, 0)


def allowed(bath, words):
    """Return all words that can stand behind some words, which can stand there."""
    cells = [str(cell) for cell in range(len(bath))]
    strides = [str(stride) for stride in range(-9, 10)]
    if not words:
        return ["drop", "rake", "comb", "paper"]
    if words[0] == "paper":
        return cells[int(words[-1]) + 1:] if len(words) > 1 else cells
    wanted = {"drop": [cells, list(LETTERS)], "rake": [strides] * bath.height, "comb": [strides] * bath.width}
    return (wanted[words[0]] + [[]])[len(words) - 1]


def first_wrong(bath, text):
    """Return the row and the word of the first fault of a text, by all words that can stand there, None if none."""
    if text == "":
        return None
    for row, line in enumerate(text.split("\n")):
        words = line.split(" ")
        for at, word in enumerate(words):
            if row == 12 or word not in allowed(bath, words[:at]):
                return row, at
        if allowed(bath, words) and (words[0] != "paper" or len(words) == 1):
            return row, len(words)
    return None


class SomeTexts(unittest.TestCase):
    def test_random_rows(self):
        firsts = ["drop", "rake", "comb", "paper"] * 5 + ["x", ""]
        others = "0 1 2 3 4 5 -1 -9 9 x y a 10 11 12 -0 00 01 -10 . A ab".split() + [""] + ["1"] * 9
        for width, height in SIZES:
            bath, chance = Bath(width, height, some_cells(width, height)), random.Random(width * 10 + height)
            for turn in range(150):
                self.compare(bath, "\n".join(
                    " ".join([chance.choice(firsts)] + chance.choices(others, k=count))
                    for count in chance.choices((1, 2, 2, 2, 3, 4), k=chance.randint(1, 3))))

    def test_changed_texts(self):
        for width, height in SIZES:
            bath, chance = Bath(width, height, some_cells(width, height)), random.Random(width * 10 + height)
            for recipe in some_recipes(width, height, 60):
                text = recipe_text(recipe)
                self.compare(bath, text)
                for turn in range(4):
                    at = chance.randint(0, len(text))
                    behind = at + chance.randint(0, 2)
                    self.compare(bath, text[:at] + chance.choice(["", " ", "\n", "0", "-", "1", "x"]) + text[behind:])

    def compare(self, bath, text):
        wanted = first_wrong(bath, text)
        with self.subTest(text=text, width=bath.width, height=bath.height):
            if wanted is None:
                self.assertEqual(recipe_text(read_recipe(bath, text)), text)
                return
            with self.assertRaises(InvalidLine) as caught:
                read_recipe(bath, text)
            self.assertEqual((caught.exception.row, caught.exception.word), wanted)


class SourceMap(unittest.TestCase):
    def test_words(self):
        self.assertEqual(source_map(3, 2, ()), "0 1 2\n3 4 5")
        self.assertEqual(source_map(2, 1, (("drop", 0, "x"),)), "d0 0")
        self.assertEqual(
            source_map(3, 2, (("rake", (1, 0)), ("paper", (0, 1)), ("drop", 5, "z"))), "p1 p1 5\n4 5 d2")
        self.assertEqual(source_map(1, 1, ()), "0")
        self.assertEqual(source_map(1, 1, (("paper", (0,)),)), "p0")
        self.assertEqual(source_map(1, 3, (("drop", 2, "d"),)), "1\n2\nd0")

    def test_the_greatest_trays(self):
        self.assertEqual(source_map(4, 3, ()), "0 1 2 3\n4 5 6 7\n8 9 10 11")
        self.assertEqual(source_map(3, 4, ()), "0 1 2\n3 4 5\n6 7 8\n9 10 11")
        recipe = (("rake", (0, 0, 0)),) * 10 + (("drop", 0, "a"), ("paper", (11,)))
        self.assertEqual(source_map(4, 3, recipe), "d10 0 1 2\n0 5 6 7\n4 9 10 p11")

    def test_against_sources(self):
        for width, height in SIZES:
            for recipe in some_recipes(width, height, 10):
                rows = source_map(width, height, recipe).split("\n")
                words = [word for row in rows for word in row.split(" ")]
                self.assertEqual([len(row.split(" ")) for row in rows], [width] * height)
                self.assertEqual(words, [
                    {"cell": "", "drop": "d", "paper": "p"}[word] + str(number)
                    for word, number in sources(width, height, recipe)[0]])

    def test_sizes_come_first(self):
        for width, height in WRONG_SIZES:
            for recipe in ((), ((),)):
                with self.subTest(width=width, height=height), self.assertRaises(InvalidSize):
                    source_map(width, height, recipe)

    def test_then_the_recipe(self):
        for recipe, index in WRONG_RECIPES:
            with self.subTest(recipe), self.assertRaises(InvalidRecipe) as caught:
                source_map(3, 2, recipe)
            self.assertEqual(caught.exception.index, index)


class WhatIsKept(unittest.TestCase):
    def test_arguments_are_as_before_and_results_equal(self):
        bath, recipe = Bath(3, 2, "abcdef"), (("drop", 0, "x"), ("rake", (1, 0)))
        for turn in range(2):
            self.assertEqual(drawing(bath), "abc\ndef")
            self.assertEqual(recipe_text(recipe), "drop 0 x\nrake 1 0")
            self.assertEqual(read_recipe(bath, "drop 0 x\nrake 1 0"), recipe)
            self.assertEqual(source_map(3, 2, recipe), "1 d0 0\n0 4 5")
            with self.assertRaises(InvalidLine):
                read_recipe(bath, "x")
            self.assertEqual((bath, recipe), (SIX, (("drop", 0, "x"), ("rake", (1, 0)))))
