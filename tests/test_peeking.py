"""Points 24 and 25: somebody who sees single cells."""

import itertools
import random
import unittest

from rakedpapers.errors import Clash, InvalidRecipe, InvalidSign, InvalidSize, UnknownCell
from rakedpapers.peeking import Peeker
from tests.helpers import (
    FINE, SIZES, WRONG_RECIPES, WRONG_SIGNS, WRONG_SIZES, slow_behind, some_cells, some_deed, some_recipes,
)

DROP = (("drop", 0, "x"),)


def view(peeker):
    """Return all that somebody knows."""
    return (peeker.known, peeker.told_so_far, peeker.sure_cells(), peeker.useful(), peeker.fewest_looks())


def beginnings(width, height, recipe, calls, signs="abx."):
    """Return the pairs of all baths at the beginning, and at the end, that agree with some calls."""
    found = []
    for cells in itertools.product(signs, repeat=width * height):
        end = slow_behind(width, height, "".join(cells), recipe)
        if all(end[cell] == sign for cell, sign in calls):
            found.append(("".join(cells), end))
    return found


def shared(texts):
    """Return the signs that all texts share, "?" for others."""
    return "".join(signs[0] if len(set(signs)) == 1 else "?" for signs in zip(*texts))


def slow_view(width, height, recipe, calls):
    """Return all that somebody knows, by trying all baths, None if none agrees."""
    pairs = beginnings(width, height, recipe, calls)
    if not pairs:
        return None
    known = shared([begin for begin, end in pairs])

    def useful(calls):
        pairs = beginnings(width, height, recipe, calls)
        known = shared([begin for begin, end in pairs])
        return tuple(
            cell for cell in range(width * height)
            if shared([begin for begin, end in pairs if end[cell] == pairs[0][1][cell]]) != known)

    cells = useful(calls)
    fewest = min(
        count for count in range(len(cells) + 1) for chosen in itertools.combinations(cells, count)
        if not useful(calls + [(cell, pairs[0][1][cell]) for cell in chosen]))
    return known, calls, shared([end for begin, end in pairs]), cells, fewest


class Beginning(unittest.TestCase):
    def test_no_deeds(self):
        self.assertEqual(view(Peeker(3, 2, ())), ("??????", [], "??????", (0, 1, 2, 3, 4, 5), 6))
        self.assertEqual(view(Peeker(1, 1, ())), ("?", [], "?", (0,), 1))

    def test_drops_and_papers_are_sure(self):
        self.assertEqual(view(Peeker(2, 1, DROP)), ("??", [], "x?", (1,), 1))
        self.assertEqual(view(Peeker(3, 2, (("paper", (0, 4)),))), ("??????", [], ".???.?", (1, 2, 3, 5), 4))
        self.assertEqual(view(Peeker(1, 1, (("drop", 0, "a"),))), ("?", [], "a", (), 0))
        self.assertEqual(view(Peeker(1, 1, (("drop", 0, "a"), ("paper", (0,))))), ("?", [], ".", (), 0))

    def test_cells_that_came_from_one(self):
        # The drop pushes what lay on its cell to all four neighbours.
        self.assertEqual(
            view(Peeker(3, 3, (("drop", 4, "x"),))), ("?" * 9, [], "????x????", (0, 1, 2, 3, 5, 6, 7, 8), 5))
        self.assertEqual(view(Peeker(3, 1, (("drop", 1, "x"),))), ("???", [], "?x?", (0, 2), 1))

    def test_the_greatest_trays(self):
        for width, height in ((4, 3), (3, 4)):
            peeker = Peeker(width, height, ())
            self.assertEqual(view(peeker), ("?" * 12, [], "?" * 12, tuple(range(12)), 12))
            for cell in range(12):
                self.assertEqual(peeker.seen(cell, "a."[cell % 2]), cell + 1)
            self.assertEqual(peeker.known, "a." * 6)
            self.assertEqual(view(peeker)[2:], ("a." * 6, (), 0))

    def test_nothing_is_useful(self):
        peeker = Peeker(3, 1, (("paper", (0, 1, 2)), ("drop", 1, "z"), ("rake", (1,))))
        self.assertEqual(view(peeker), ("???", [], "..z", (), 0))
        self.assertEqual(peeker.seen(2, "z"), 0)
        self.assertEqual(peeker.seen(0, "."), 0)
        self.assertEqual(view(peeker), ("???", [(2, "z"), (0, ".")], "..z", (), 0))


class Seen(unittest.TestCase):
    def test_how_many_are_known(self):
        peeker = Peeker(3, 2, (FINE, ("paper", (0, 1)), ("drop", 5, "z")))
        # cabdef, ..bdef, ..fefz
        self.assertEqual(peeker.sure_cells(), "..???z")
        self.assertEqual(peeker.seen(0, "."), 0)
        self.assertEqual(peeker.seen(2, "f"), 1)
        self.assertEqual(peeker.known, "?????f")
        self.assertEqual(peeker.sure_cells(), "..f?fz")
        self.assertEqual(peeker.useful(), (3,))
        self.assertEqual(peeker.seen(4, "f"), 1)
        self.assertEqual(peeker.seen(3, "."), 2)
        self.assertEqual(peeker.seen(5, "z"), 2)
        self.assertEqual(peeker.told_so_far, [(0, "."), (2, "f"), (4, "f"), (3, "."), (5, "z")])
        self.assertEqual(view(peeker)[2:], ("..f.fz", (), 0))
        self.assertEqual(peeker.known, "????.f")

    def test_the_same_call_again(self):
        peeker = Peeker(2, 1, DROP)
        for turn in range(3):
            self.assertEqual(peeker.seen(1, "b"), 1)
        self.assertEqual(peeker.told_so_far, [(1, "b")] * 3)
        self.assertEqual(peeker.known, "b?")

    def test_nothing_is_a_sign_too(self):
        peeker = Peeker(2, 1, ())
        self.assertEqual(peeker.seen(1, "."), 1)
        self.assertEqual(view(peeker), ("?.", [(1, ".")], "?.", (0,), 1))

    def test_clashes_change_nothing(self):
        peeker = Peeker(3, 1, (("drop", 1, "x"), ("paper", (0,))))
        # abc, bxb, .xb
        for told in ([], [(2, "b")], [(2, "b"), (1, "x")], [(0, "."), (2, "b")]):
            peeker = Peeker(3, 1, (("drop", 1, "x"), ("paper", (0,))))
            for cell, sign in told:
                peeker.seen(cell, sign)
            before = view(peeker)
            for cell, sign in [(0, "x"), (0, "b"), (1, "."), (1, "b")] + ([(2, "."), (2, "x")] if told else []):
                with self.subTest(told=told, cell=cell, sign=sign), self.assertRaises(Clash):
                    peeker.seen(cell, sign)
                self.assertEqual(view(peeker), before)
        self.assertEqual(peeker.seen(2, "b"), 1)

    def test_a_clash_of_two_cells_that_came_from_one(self):
        peeker = Peeker(3, 1, (("drop", 1, "x"),))
        self.assertEqual(peeker.seen(0, "b"), 1)
        with self.assertRaises(Clash):
            peeker.seen(2, "c")
        self.assertEqual(peeker.seen(2, "b"), 1)
        self.assertEqual(view(peeker), ("?b?", [(0, "b"), (2, "b")], "bxb", (), 0))

    def test_what_lay_there_is_told_without_a_clash(self):
        for width, height in SIZES:
            for turn, recipe in enumerate(some_recipes(width, height, 10)):
                begin = some_cells(width, height, turn)
                end = slow_behind(width, height, begin, recipe)
                peeker = Peeker(width, height, recipe)
                looks, least = 0, peeker.fewest_looks()
                while peeker.useful():
                    cell = peeker.useful()[-1]
                    self.assertEqual(peeker.seen(cell, end[cell]), looks + 1)
                    looks += 1
                self.assertEqual(looks, least)
                self.assertEqual(peeker.sure_cells(), end)
                self.assertTrue(all(one in ("?", other) for one, other in zip(peeker.known, begin)))

    def test_against_a_slow_way(self):
        for width, height in ((1, 1), (2, 1), (1, 2), (3, 1), (1, 3), (2, 2), (4, 1)):
            chance = random.Random(width * 10 + height)
            for turn in range(12):
                recipe = tuple(
                    one[:2] + ("x",) if one[0] == "drop" else one
                    for one in [some_deed(chance, width, height) for deed in range(turn % 4)])
                peeker, calls = Peeker(width, height, recipe), []
                for look in range(4):
                    with self.subTest(width=width, height=height, recipe=recipe, calls=calls):
                        self.assertEqual(view(peeker), slow_view(width, height, recipe, calls))
                    call = (chance.randrange(width * height), chance.choice("abx."))
                    if beginnings(width, height, recipe, calls + [call]):
                        calls.append(call)
                        self.assertEqual(peeker.seen(*call), sum(one != "?" for one in peeker.known))
                    else:
                        with self.assertRaises(Clash):
                            peeker.seen(*call)


class ErrorsInTheirOrder(unittest.TestCase):
    def test_sizes_come_first(self):
        for width, height in WRONG_SIZES:
            for recipe in ((), ((),), (FINE,) * 13):
                with self.subTest(width=width, height=height), self.assertRaises(InvalidSize):
                    Peeker(width, height, recipe)

    def test_then_the_recipe(self):
        for recipe, index in WRONG_RECIPES:
            with self.subTest(recipe), self.assertRaises(InvalidRecipe) as caught:
                Peeker(3, 2, recipe)
            self.assertEqual(caught.exception.index, index)

    def check(self, error, cell, sign):
        peeker = Peeker(3, 2, (("drop", 0, "x"),))
        peeker.seen(2, "b")
        before = view(peeker)
        with self.subTest(cell=cell, sign=sign), self.assertRaises(error):
            peeker.seen(cell, sign)
        self.assertEqual(view(peeker), before)

    def test_the_cell_comes_first(self):
        for cell in (-1, 6, 100, True, False):
            for sign in ("a", "A", "x"):
                self.check(UnknownCell, cell, sign)

    def test_then_the_sign(self):
        for sign in WRONG_SIGNS:
            for cell in (0, 2, 5):
                self.check(InvalidSign, cell, sign)

    def test_then_the_clash(self):
        self.check(Clash, 0, "y")
        self.check(Clash, 2, "x")


class WhatIsKept(unittest.TestCase):
    def test_lists_are_new_for_each_reading(self):
        peeker = Peeker(2, 1, DROP)
        peeker.seen(1, "b")
        peeker.told_so_far.append((0, "x"))
        peeker.told_so_far.clear()
        self.assertEqual(peeker.told_so_far, [(1, "b")])
        self.assertIsInstance(peeker.told_so_far, list)

    def test_repeated_calls_and_kinds(self):
        peeker, other = Peeker(3, 1, (("drop", 1, "x"),)), Peeker(3, 1, (("drop", 1, "x"),))
        for turn in range(2):
            self.assertEqual(view(peeker), ("???", [], "?x?", (0, 2), 1))
        other.seen(0, "a")
        self.assertEqual(view(peeker), ("???", [], "?x?", (0, 2), 1))
        self.assertIsInstance(peeker.useful(), tuple)
        self.assertIsInstance(peeker.known, str)
        self.assertIsInstance(peeker.sure_cells(), str)

    def test_properties_and_methods_stand_in_the_class(self):
        for name in ("known", "told_so_far"):
            self.assertIsInstance(vars(Peeker)[name], property)
            with self.assertRaises(AttributeError):
                setattr(Peeker(1, 1, ()), name, None)
        for name in ("seen", "sure_cells", "useful", "fewest_looks"):
            self.assertIn(name, vars(Peeker))
