"""Points 6 to 8 and 15: where signs come from, which recipes are alike, and what papers tell."""

import itertools
import unittest

from rakedpapers.baths import Bath, done
from rakedpapers.errors import InvalidPapers, InvalidRecipe, InvalidSize, TooMany
from rakedpapers.origins import alike, copies, lost, parting_bath, sources, told
from tests.helpers import (
    FINE, LETTERS, SIZES, WRONG_RECIPES, WRONG_SIZES, some_cells, some_recipes,
)

FINE_ONE = ("rake", (1,))
FROM_RECIPES = (sources, copies, lost)


def sign_of(source, cells, recipe):
    """Return the sign of a source, if these cells lay there at the beginning."""
    word, number = source
    if word == "cell":
        return cells[number]
    return recipe[number][2] if word == "drop" else "."


class Sources(unittest.TestCase):
    def test_no_deeds(self):
        self.assertEqual(sources(2, 1, ()), ((("cell", 0), ("cell", 1)), []))

    def test_drops_and_papers_are_told_by_their_indexes(self):
        recipe = (("drop", 0, "x"), ("paper", (0, 1)), ("drop", 1, "x"), ("rake", (1,)), ("paper", (1, 2)))
        self.assertEqual(
            sources(3, 1, recipe),
            ((("paper", 1), ("paper", 4), ("paper", 4)),
             [(("drop", 0), ("cell", 0)), (("paper", 1), ("drop", 2))]),
        )

    def test_the_nothing_of_the_last_paper_is_told(self):
        self.assertEqual(
            sources(2, 1, (("paper", (0, 1)), ("paper", (1,)))),
            ((("paper", 0), ("paper", 1)), [(("cell", 0), ("cell", 1)), (("paper", 0),)]),
        )

    def test_kinds(self):
        cells, papers = sources(3, 2, (("paper", (0,)),))
        self.assertIsInstance(sources(3, 2, ()), tuple)
        self.assertIsInstance(cells, tuple)
        self.assertIsInstance(papers, list)
        self.assertIsInstance(papers[0], tuple)

    def test_they_tell_what_is_done(self):
        for width, height in SIZES:
            for turn, recipe in enumerate(some_recipes(width, height, 20)):
                for text in (some_cells(width, height, turn), LETTERS[:width * height]):
                    with self.subTest(width=width, height=height, recipe=recipe):
                        cells, papers = sources(width, height, recipe)
                        bath, made = done(Bath(width, height, text), recipe)
                        self.assertEqual("".join(sign_of(one, text, recipe) for one in cells), bath.cells)
                        self.assertEqual(
                            ["".join(sign_of(one, text, recipe) for one in paper) for paper in papers], made)

    def test_cells_are_told_apart_though_drops_have_their_colours(self):
        recipe = (("drop", 0, "a"), ("drop", 2, "a"))
        self.assertEqual(sources(3, 1, recipe)[0], (("cell", 0), ("cell", 1), ("drop", 1)))


class Copies(unittest.TestCase):
    def test_bath_and_papers_count(self):
        self.assertEqual(copies(3, 3, (("drop", 4, "z"),)), {0: 1, 1: 0, 2: 1, 3: 0, 4: 4, 5: 0, 6: 1, 7: 0, 8: 1})
        self.assertEqual(copies(2, 1, (("drop", 0, "z"), ("paper", (1,)))), {0: 1, 1: 0})
        self.assertEqual(copies(2, 1, (("paper", (0,)),)), {0: 1, 1: 1})
        recipe = (("drop", 1, "z"), ("paper", (0,)), ("rake", (1,)))
        self.assertEqual(copies(3, 1, recipe), {0: 0, 1: 2, 2: 0})

    def test_all_cells_ascending(self):
        for width, height in SIZES:
            for recipe in some_recipes(width, height, 5):
                counts = copies(width, height, recipe)
                self.assertIsInstance(counts, dict)
                self.assertEqual(list(counts), list(range(width * height)))
                cells, papers = sources(width, height, recipe)
                every = list(cells) + [one for paper in papers for one in paper]
                for cell in counts:
                    self.assertEqual(counts[cell], every.count(("cell", cell)))

    def test_one_cell(self):
        self.assertEqual(copies(1, 1, (("drop", 0, "a"),)), {0: 0})
        self.assertEqual(copies(1, 1, ()), {0: 1})


class Lost(unittest.TestCase):
    def test_what_is_nowhere(self):
        self.assertEqual(lost(3, 3, (("drop", 4, "z"),)), (1, 3, 5, 7))
        self.assertEqual(lost(3, 3, (("paper", (1, 3)), ("drop", 4, "z"))), (5, 7))
        self.assertEqual(lost(3, 3, ()), ())
        self.assertEqual(lost(1, 1, (("drop", 0, "z"),)), (0,))

    def test_it_agrees_with_copies(self):
        for width, height in SIZES:
            for recipe in some_recipes(width, height, 5):
                counts = copies(width, height, recipe)
                self.assertEqual(lost(width, height, recipe), tuple(cell for cell in counts if counts[cell] == 0))


def same(width, height, one, other, signs):
    """Return whether all baths of some signs become the same by two recipes."""
    for cells in itertools.product(signs, repeat=width * height):
        bath = Bath(width, height, "".join(cells))
        if done(bath, one) != done(bath, other):
            return False
    return True


class Alike(unittest.TestCase):
    def check(self, width, height, one, other, wanted):
        self.assertIs(alike(width, height, one, other), wanted)
        self.assertIs(alike(width, height, other, one), wanted)

    def test_the_same_bath_at_the_end(self):
        self.check(3, 2, (), (), True)
        self.check(3, 2, (), (FINE,) * 3, True)
        self.check(3, 2, (), (FINE,) * 2, False)
        self.check(3, 1, (("drop", 1, "a"),) * 3, (("drop", 1, "a"),) * 2, True)
        self.check(3, 1, (("drop", 1, "a"),), (("drop", 1, "b"),), False)
        self.check(1, 1, (("drop", 0, "a"),), (), False)
        self.check(1, 1, (("drop", 0, "b"), ("drop", 0, "a")), (("drop", 0, "a"),), True)
        self.check(4, 3, (("rake", (9, -9, 0)),), (("rake", (1, 3, 4)),), True)

    def test_papers_count_by_their_texts(self):
        all_two, first = ("paper", (0, 1)), ("paper", (0,))
        self.check(2, 1, (all_two,), (all_two, first), False)
        self.check(2, 1, (all_two, first), (all_two, ("paper", (1,))), True)
        self.check(2, 1, (all_two,), (first, ("paper", (1,))), False)
        self.check(2, 1, (first, ("paper", (1,))), (("paper", (1,)), first), False)
        self.check(2, 1, (first,), (("rake", (1,)), ("paper", (1,)), ("rake", (1,))), True)
        self.check(2, 1, (("drop", 0, "a"), first), (("drop", 0, "b"), first), False)
        self.check(2, 1, (("drop", 0, "a"), ("paper", (1,))), (first, ("drop", 0, "a"), ("paper", (1,))), False)

    def test_drops_of_one_colour_count_as_one(self):
        one, other = (("drop", 1, "a"), ("drop", 0, "a")), (("drop", 1, "a"), ("drop", 2, "a"))
        self.check(3, 1, one, other, True)
        self.check(3, 1, one, (("drop", 1, "a"), ("drop", 2, "b")), False)
        self.check(1, 1, (("drop", 0, "a"),), (("paper", (0,)), ("drop", 0, "a")), False)

    def test_the_nothing_of_all_papers_counts_as_one(self):
        self.check(2, 1, (("paper", (0, 1)), ("paper", (0,))), (("paper", (0, 1)), ("paper", (1,))), True)
        self.check(1, 1, (FINE_ONE, ("paper", (0,))), (("paper", (0,)), FINE_ONE), True)

    def test_against_all_baths(self):
        for width, height in ((1, 1), (2, 1), (1, 2), (3, 1), (2, 2)):
            recipes = some_recipes(width, height, 30, 3)
            for one, other in itertools.product(recipes, repeat=2):
                with self.subTest(one=one, other=other):
                    self.assertIs(alike(width, height, one, other), same(width, height, one, other, "ab"))


class PartingBath(unittest.TestCase):
    def test_the_first_one_in_tuple_order(self):
        self.assertEqual(parting_bath(2, 1, (("rake", (1,)),), ()), "ab")
        self.assertEqual(parting_bath(3, 1, (("rake", (1,)),), ()), "aab")
        self.assertEqual(parting_bath(1, 1, (("drop", 0, "a"),), ()), "b")
        self.assertEqual(parting_bath(1, 1, (("drop", 0, "b"),), ()), "a")
        self.assertEqual(parting_bath(1, 1, (("drop", 0, "a"),), (("drop", 0, "b"),)), "a")
        self.assertEqual(parting_bath(2, 1, (("paper", (0,)),), ()), "aa")
        self.assertEqual(parting_bath(2, 1, (("paper", (0, 1)),), (("rake", (1,)), ("paper", (0, 1)))), "ab")

    def test_none_if_they_are_alike(self):
        self.assertIsNone(parting_bath(3, 2, (FINE,) * 3, ()))
        self.assertIsNone(parting_bath(1, 1, (), ()))

    def test_eight_cells_and_nine(self):
        self.assertEqual(parting_bath(4, 2, (("rake", (0, 4)),), (("rake", (0, 1)),)), "aaaaaaab")
        self.assertIsNone(parting_bath(2, 4, (("rake", (1,) * 4),), (("rake", (-1,) * 4),)))
        for width, height in ((3, 3), (5, 2), (2, 5), (4, 3), (3, 4)):
            with self.subTest(width=width, height=height), self.assertRaises(TooMany):
                parting_bath(width, height, (), ())
            with self.subTest(width=width, height=height), self.assertRaises(TooMany):
                parting_bath(width, height, (), (("drop", 0, "a"),))

    def test_against_all_texts(self):
        for width, height in ((1, 1), (2, 1), (1, 2), (3, 1), (2, 2)):
            recipes = some_recipes(width, height, 12, 3)
            texts = ["".join(cells) for cells in itertools.product("ab", repeat=width * height)]
            for one, other in itertools.product(recipes, repeat=2):
                parting = [text for text in texts
                           if done(Bath(width, height, text), one) != done(Bath(width, height, text), other)]
                with self.subTest(one=one, other=other):
                    self.assertEqual(parting_bath(width, height, one, other), (parting + [None])[0])
                    self.assertEqual(parting == [], alike(width, height, one, other))


class Told(unittest.TestCase):
    def test_what_papers_tell(self):
        self.assertEqual(told(3, 2, (), ()), "??????")
        self.assertEqual(told(3, 2, (("paper", (1, 4)),), ("x.",)), "?x??.?")
        self.assertEqual(told(2, 1, (("rake", (1,)), ("paper", (0,))), ("q",)), "?q")
        self.assertEqual(told(4, 3, (("paper", tuple(range(12))),), ("abcdefghijk.",)), "abcdefghijk.")
        self.assertEqual(told(1, 1, (("paper", (0,)),), (".",)), ".")

    def test_several_papers(self):
        recipe = (("drop", 1, "z"), ("paper", (0,)), ("paper", (0, 2)))
        self.assertEqual(told(3, 1, recipe, ("a", ".a")), "?a?")

    def test_no_such_bath(self):
        recipe = (("drop", 1, "z"), ("paper", (0,)), ("paper", (0, 2)))
        self.assertIsNone(told(3, 1, recipe, ("a", ".b")))
        self.assertIsNone(told(3, 1, recipe, (".", ".b")))
        self.assertIsNone(told(3, 1, recipe, ("a", "..")))
        self.assertIsNone(told(3, 1, recipe, ("a", "aa")))
        self.assertIsNone(told(3, 1, (("drop", 0, "z"), ("paper", (0,))), (".",)))
        self.assertEqual(told(3, 1, (("drop", 0, "z"), ("paper", (0,))), ("z",)), "???")

    def test_nothing_is_a_sign_too(self):
        recipe = (("drop", 1, "z"), ("paper", (0, 2)))
        self.assertEqual(told(3, 1, recipe, ("..",)), "?.?")
        self.assertIsNone(told(3, 1, recipe, (".a",)))
        self.assertIsNone(told(3, 1, recipe, ("a.",)))

    def test_against_all_baths(self):
        for width, height in ((1, 1), (2, 1), (1, 2), (3, 1)):
            baths = ["".join(cells) for cells in itertools.product("ab.z", repeat=width * height)]
            for recipe in some_recipes(width, height, 25, 4):
                made = {}
                for text in baths:
                    made.setdefault(tuple(done(Bath(width, height, text), recipe)[1]), []).append(text)
                for papers, texts in made.items():
                    wanted = "".join(here[0] if len(set(here)) == 1 else "?" for here in zip(*texts))
                    with self.subTest(recipe=recipe, papers=papers):
                        self.assertEqual(told(width, height, recipe, papers), wanted)

    def check_index(self, papers, index):
        recipe = (("paper", (0, 1)), ("rake", (1, 0)), ("paper", (2,)), ("paper", (0, 3, 5)))
        with self.subTest(papers), self.assertRaises(InvalidPapers) as caught:
            told(3, 2, recipe, papers)
        self.assertEqual(caught.exception.index, index)

    def test_too_few_papers_and_too_many(self):
        self.check_index((), 0)
        self.check_index(("ab",), 1)
        self.check_index(("ab", "."), 2)
        self.check_index(("ab", ".", ".de", "a"), 3)
        self.check_index(("ab", ".", ".de", "", ""), 3)

    def test_texts_that_are_none(self):
        for text in ("", "a", "abc", "a?", "aB", "a ", "a\n", "a1", "\u00e4a"):
            self.check_index((text, ".", ".de"), 0)
            self.check_index((text,), 0)
            self.check_index((text, ".", ".de", "a"), 0)
        self.check_index(("ab", "ab", ".de"), 1)
        self.check_index(("ab", "", ".de"), 1)
        self.check_index(("ab", ".", ".d"), 2)
        self.check_index(("ab", "A", ".d"), 1)
        self.check_index(("zz", "?"), 1)

    def test_wrong_texts_come_before_no_such_bath(self):
        with self.assertRaises(InvalidPapers) as caught:
            told(3, 1, (("drop", 0, "z"), ("paper", (0,)), ("paper", (1,))), ("y", "??"))
        self.assertEqual(caught.exception.index, 1)


class ErrorsInTheirOrder(unittest.TestCase):
    def test_size_comes_first(self):
        for width, height in WRONG_SIZES:
            for call in FROM_RECIPES:
                with self.subTest(call=call, width=width, height=height), self.assertRaises(InvalidSize):
                    call(width, height, ((),))
            for call in (alike, parting_bath):
                with self.subTest(call=call, width=width, height=height), self.assertRaises(InvalidSize):
                    call(width, height, ((),), ((),))
            with self.subTest(width=width, height=height), self.assertRaises(InvalidSize):
                told(width, height, ((),), ("", "", ""))

    def test_then_the_recipe(self):
        for recipe, index in WRONG_RECIPES:
            for call in FROM_RECIPES:
                with self.subTest(call=call, recipe=recipe), self.assertRaises(InvalidRecipe) as caught:
                    call(3, 2, recipe)
                self.assertEqual(caught.exception.index, index)
            with self.subTest(recipe), self.assertRaises(InvalidRecipe) as caught:
                told(3, 2, recipe, ("", "", ""))
            self.assertEqual(caught.exception.index, index)

    def test_either_of_two_recipes(self):
        for recipe, index in WRONG_RECIPES:
            for call in (alike, parting_bath):
                for one, other in ((recipe, (FINE,)), ((FINE,), recipe), (recipe, (FINE,) * 5 + ((),) * 9)):
                    with self.subTest(call=call, one=one, other=other), self.assertRaises(InvalidRecipe) as caught:
                        call(3, 2, one, other)
                    self.assertEqual(caught.exception.index, index)

    def test_too_many_cells_to_part_come_last(self):
        with self.assertRaises(InvalidRecipe):
            parting_bath(3, 3, (), ((),))
        with self.assertRaises(InvalidSize):
            parting_bath(4, 4, (), ())

    def test_sizes_that_are_right(self):
        for width, height in SIZES:
            self.assertEqual(len(sources(width, height, ())[0]), width * height)
            self.assertEqual(told(width, height, (), ()), "?" * (width * height))


class WhatIsKept(unittest.TestCase):
    def test_the_caller_may_change_lists_and_dicts(self):
        recipe = (("paper", (0,)), ("drop", 1, "x"))
        wanted = sources(2, 1, recipe)
        sources(2, 1, recipe)[1].clear()
        self.assertEqual(sources(2, 1, recipe), wanted)
        self.assertEqual(wanted, ((("cell", 1), ("drop", 1)), [(("cell", 0),)]))
        copies(2, 1, recipe).clear()
        copies(2, 1, recipe)[0] = 9
        self.assertEqual(copies(2, 1, recipe), {0: 1, 1: 1})

    def test_arguments_are_as_before(self):
        recipe, papers = (("paper", (0,)), ("drop", 1, "x")), ("a",)
        for call in FROM_RECIPES:
            self.assertEqual(call(2, 1, recipe), call(2, 1, recipe))
        for turn in range(2):
            self.assertEqual(told(2, 1, recipe, papers), "a?")
            self.assertEqual(parting_bath(2, 1, recipe, ()), "aa")
        self.assertEqual((recipe, papers), ((("paper", (0,)), ("drop", 1, "x")), ("a",)))
