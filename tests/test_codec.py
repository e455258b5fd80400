"""Point 28: codes of baths."""

import random
import unittest

from rakedpapers.baths import Bath
from rakedpapers.codec import decode_bath, encode_bath
from rakedpapers.errors import DecodeError, InvalidBath
from tests.helpers import LETTERS, SIZES, some_cells

SMALL = [103, 2, 1, 1, 0, 163]
TOO_LARGE = [(width, height) for width in range(1, 6) for height in range(1, 6) if width * height > 12]
WRONG_ITEMS = [-1, 27, 256, 1000, -103, True, False, None, "a", "1", "", (1,), 1.0]


def check_of(items):
    """Return the checksum of some items, by the powers of its factor."""
    total = 9 * 17 ** len(items)
    for place, item in enumerate(items):
        total += item * 17 ** (len(items) - 1 - place)
    return total % 227


def code_of(width, height, numbers):
    """Return a code with such items."""
    items = [103, width, height] + list(numbers)
    return items + [check_of(items)]


class Encode(unittest.TestCase):
    def test_small_baths(self):
        self.assertEqual(encode_bath(Bath(2, 1, "a.")), SMALL)
        self.assertEqual(encode_bath(Bath(1, 1, "."))[:4], [103, 1, 1, 0])
        self.assertEqual(encode_bath(Bath(1, 1, "z"))[:4], [103, 1, 1, 26])
        self.assertEqual(encode_bath(Bath(3, 2, "abc.yz"))[:9], [103, 3, 2, 1, 2, 3, 0, 25, 26])

    def test_checksums(self):
        # 9, 9 * 17 + 103 = 256 = 29, 29 * 17 + 1 = 494 = 40, 40 * 17 + 1 = 681 = 0, 0 * 17 + 0 = 0
        self.assertEqual(encode_bath(Bath(1, 1, ".")), [103, 1, 1, 0, 0])
        self.assertEqual(encode_bath(Bath(1, 1, "z")), [103, 1, 1, 26, 26])

    def test_all_sizes(self):
        for width, height in SIZES:
            for seed in range(10):
                text = some_cells(width, height, seed)
                numbers = [(LETTERS.find(sign) + 1) for sign in text]
                found = encode_bath(Bath(width, height, text))
                self.assertEqual(found, code_of(width, height, numbers))
                self.assertTrue(all(0 <= item <= 255 for item in found))
                self.assertEqual(len(found), width * height + 4)

    def test_kinds(self):
        self.assertIsInstance(encode_bath(Bath(1, 1, "a")), list)
        self.assertTrue(all(type(item) is int for item in encode_bath(Bath(3, 2, "abcdef"))))


class Decode(unittest.TestCase):
    def test_back_again(self):
        for width, height in SIZES:
            for seed in range(10):
                bath = Bath(width, height, some_cells(width, height, seed))
                found = decode_bath(encode_bath(bath))
                self.assertIsInstance(found, Bath)
                self.assertEqual(found, bath)

    def test_all_letters(self):
        for number, sign in enumerate("." + LETTERS):
            self.assertEqual(decode_bath(code_of(1, 1, [number])).cells, sign)

    def check(self, values, offset):
        with self.subTest(values), self.assertRaises(DecodeError) as caught:
            decode_bath(values)
        self.assertEqual(caught.exception.offset, offset)

    def test_each_item_changed(self):
        for bath in (Bath(1, 1, "a"), Bath(2, 1, "a."), Bath(3, 2, "abc.yz"), Bath(4, 3, LETTERS[:12])):
            values = encode_bath(bath)
            for offset in range(len(values)):
                for wrong in WRONG_ITEMS:
                    for more in ([], [None], [0, 0]):
                        changed = values[:offset] + [wrong] + values[offset + 1:] + more
                        self.check(changed, offset)

    def test_the_first_item(self):
        for first in list(range(103)) + list(range(104, 256)):
            self.check([first] + SMALL[1:], 0)
        self.check([104, 9, 9, 99], 0)

    def test_the_sides(self):
        for wrong in (0, 6, 12, 255, -1):
            self.check([103, wrong, 1, 1, 0, 163], 1)
            self.check([103, 2, wrong, 1, 0, 163], 2)
            self.check([103, wrong, wrong], 1)

    def test_the_checksum(self):
        for value in list(range(163)) + list(range(164, 400)) + [-1, 163 + 227, 163 - 227]:
            self.check(SMALL[:-1] + [value], 5)
            self.check(SMALL[:-1] + [value, 0], 5)
        for offset, item in ((3, 2), (3, 0), (4, 1), (4, 26)):
            self.check(SMALL[:offset] + [item] + SMALL[offset + 1:], 5)

    def test_another_width_and_height_move_the_checksum(self):
        self.check([103, 1, 1, 1, 0, 163], 4)
        self.check([103, 1, 2, 1, 0, 163], 5)
        self.check([103, 3, 1, 1, 0, 19, 163], 6)

    def test_items_behind(self):
        for more in ([0], [163], [None], [0, 0], [True], ["a"], SMALL):
            self.check(SMALL + more, 6)

    def test_items_missing(self):
        for bath in (Bath(1, 1, "a"), Bath(2, 1, "a."), Bath(4, 3, LETTERS[:12])):
            values = encode_bath(bath)
            for length in range(len(values)):
                self.check(values[:length], length)

    def test_a_wrong_item_comes_ahead_of_missing_ones(self):
        self.check([1], 0)
        self.check([103, 6], 1)
        self.check([103, 5, 0], 2)
        self.check([103, 5, 5, 27], 3)
        self.check([103, 5, 5, 26], 4)

    def test_the_first_of_several(self):
        chance = random.Random(1)
        values = encode_bath(Bath(3, 2, "abc.yz"))
        for turn in range(200):
            places = sorted(chance.sample(range(len(values)), 3))
            changed = list(values)
            for place in places:
                changed[place] = -1
            self.check(changed, places[0])

    def test_too_many_cells(self):
        for width, height in TOO_LARGE:
            values = code_of(width, height, [1] * (width * height))
            with self.subTest(values), self.assertRaises(InvalidBath) as caught:
                decode_bath(values)
            self.assertEqual(caught.exception.part, "height")
            self.check(values[:-1], len(values) - 1)
            self.check(values + [0], len(values))
            self.check(values[:-1] + [(values[-1] + 1) % 227], len(values) - 1)
            self.check(values[:-2] + [27, values[-1]], len(values) - 2)


class WhatIsKept(unittest.TestCase):
    def test_arguments_are_as_before_and_results_equal(self):
        bath, values = Bath(2, 1, "a."), list(SMALL)
        for turn in range(2):
            encode_bath(bath).clear()
            self.assertEqual(decode_bath(values), bath)
            with self.assertRaises(DecodeError):
                decode_bath(values[:-1])
            self.assertEqual(values, SMALL)
        values.clear()
        self.assertEqual(bath.cells, "a.")
