"""Points 29 and 30: scripts."""

import random
import re
import unittest

from rakedpapers.baths import Bath
from rakedpapers.errors import ExecutionFailed, ScriptError, TooLong
from rakedpapers.scripts import run_script
from rakedpapers.tables import Table
from tests.helpers import LETTERS, SIZES, slow_done, some_cells

SIX = Bath(3, 2, "abcdef")
TWO = Bath(2, 1, "ab")
ONE = Bath(1, 1, "a")

# Words that are no numbers of one or two digits without a needless zero.
NO_NUMBERS = ["", "-1", "-0", "00", "01", "100", "+1", "a", "1a", ".", "\u0661", "\u00b2", "1.", "1_0", "\t1"]
NO_STRIDES = ["", "-0", "00", "01", "-01", "100", "-100", "+1", "a", "--1", "-", "-a", ".", "-\u0661", "1-"]
NO_LETTERS = ["", ".", "A", "ab", "0", "\u00e4", "?"]
NO_SIGNS = ["", "A", "ab", "..", "0", "\u00e4", "?"]

# Each of these rows is no row of a script by its words.
WRONG_ROWS = [
    "", " ", "x", "Drop 0 x", "drops 0 x", "rak 1", "shows", "Show", "show ", "show 1", " show", "end ", "end 1",
    "End", "repeat", "repeat ", "repeat 1 2", "repeat 1 ", "repeat a", "Repeat 1", "when", "when 0", "when 0 a a",
    "when 0 a ", "when a 0", "when  0 a", "while 0 a", "undo", "redo", "keep_as a", "fetch a", "drop", "drop 0",
    "drop 0 x x", "drop x 0", "drop 0 x ", "drop  0 x", "rake", "rake ", "rake 1 ", "rake 1  1", "comb", "comb ",
    "comb x", "paper", "paper ", "paper x", "paper 0 ", "paper -1", "paper 0 x", "rake 1 x", "comb 1 2 -0",
    "0", "-", ".", "\t", "show\t", "\r", "show\r",
] + [f"{row} {word}" for word in NO_NUMBERS for row in ("repeat", "paper", "paper 0")] + [
    f"drop {word} x" for word in NO_NUMBERS] + [f"when {word} x" for word in NO_NUMBERS] + [
    f"drop 0 {word}" for word in NO_LETTERS] + [f"when 0 {word}" for word in NO_SIGNS] + [
    f"{row} {word}" for word in NO_STRIDES for row in ("rake", "comb", "rake 1", "comb -1")]


def script(*rows):
    """Return the text of some rows."""
    return "\n".join(rows)


def repeated(count, *rows):
    """Return the rows of a block that repeats some rows."""
    return (f"repeat {count}",) + rows + ("end",)


class Deeds(unittest.TestCase):
    def check(self, bath, text, cells, output, history):
        with self.subTest(text):
            table, lines = run_script(bath, text)
            self.assertIsInstance(table, Table)
            self.assertIsInstance(lines, list)
            self.assertEqual((table.bath_now.cells, lines, table.history), (cells, output, history))
            self.assertEqual((table.bath_now.width, table.bath_now.height), (bath.width, bath.height))

    def test_no_rows(self):
        self.check(SIX, "", "abcdef", [], [])

    def test_each_deed(self):
        self.check(SIX, "drop 1 z", "bzbdbf", [], [("drop", 1, "z")])
        self.check(SIX, "rake 1 -1", "cabefd", [], [("rake", (1, -1))])
        self.check(SIX, "comb 1 0 9", "dbfaec", [], [("comb", (1, 0, 9))])
        self.check(SIX, "paper 0 4", ".bcd.f", ["ae"], [("paper", (0, 4))])
        self.check(SIX, "show", "abcdef", ["abcdef"], [])
        self.check(ONE, "drop 0 b\nrake 0\ncomb -9\npaper 0", ".", ["b"],
                   [("drop", 0, "b"), ("rake", (0,)), ("comb", (-9,)), ("paper", (0,))])

    def test_output_in_turn(self):
        self.check(
            SIX, script("show", "paper 0 1", "paper 1 2", "show", "drop 5 z", "show"), "..fefz",
            ["abcdef", "ab", ".c", "...def", "..fefz"], [("paper", (0, 1)), ("paper", (1, 2)), ("drop", 5, "z")])

    def test_more_than_twelve_deeds(self):
        self.check(SIX, script(*["rake 1 0"] * 60), "abcdef", [], [("rake", (1, 0))] * 60)

    def test_the_table_can_be_worked_on(self):
        table, lines = run_script(SIX, script("rake 1 0", "paper 0", "show"))
        self.assertEqual(table.papers_made, ["c"])
        self.assertIs(table.undo(), True)
        self.assertEqual(table.bath_now.cells, "cabdef")
        self.assertIs(table.undo(), True)
        self.assertIs(table.undo(), False)
        self.assertIs(table.redo(), True)
        self.assertEqual(table.kept_under, [])


class Blocks(unittest.TestCase):
    def check(self, bath, text, output, many):
        with self.subTest(text):
            table, lines = run_script(bath, text)
            self.assertEqual((lines, len(table.history)), (output, many))

    def test_repeat(self):
        self.check(SIX, script(*repeated(2, "rake 1 0", "show")), ["cabdef", "bcadef"], 2)
        self.check(SIX, script(*repeated(0, "rake 1 0", "show"), "show"), ["abcdef"], 0)
        self.check(SIX, script(*repeated(1, "show")), ["abcdef"], 0)
        self.check(SIX, script(*repeated(3)), [], 0)
        self.check(SIX, script(*repeated(10, "paper 0"), "show"), ["a"] + ["."] * 9 + [".bcdef"], 10)
        self.check(SIX, script(*repeated(99, "rake 1 0"), "show"), ["abcdef"], 99)

    def test_when(self):
        self.check(SIX, script("when 0 a", "show", "end"), ["abcdef"], 0)
        self.check(SIX, script("when 0 b", "show", "end"), [], 0)
        self.check(SIX, script("when 5 .", "show", "end"), [], 0)
        self.check(SIX, script("paper 5", "when 5 .", "show", "end"), ["f", "abcde."], 1)
        self.check(SIX, script("when 0 a", "end", "show"), ["abcdef"], 0)

    def test_when_asks_each_time(self):
        rows = repeated(3, "when 0 a", "show", "end", "rake 1 0")
        self.check(SIX, script(*rows), ["abcdef"], 3)
        rows = repeated(6, "when 0 c", "paper 0", "end", "rake 1 0")
        self.check(SIX, script(*rows), ["c"], 7)

    def test_when_asks_at_its_beginning_alone(self):
        self.check(SIX, script("when 0 a", "drop 0 z", "show", "end"), ["zabaef"], 1)

    def test_blocks_in_blocks(self):
        self.check(TWO, script(*repeated(2, *repeated(3, "rake 1"), "show")), ["ba", "ab"], 6)
        self.check(TWO, script(*repeated(2, "when 0 a", *repeated(2, "show"), "end", "rake 1")), ["ab"] * 2, 2)
        self.check(TWO, script(*repeated(0, "when 9 a", "rake 99", "end")), [], 0)
        self.check(TWO, script("when 0 b", *repeated(2, "paper 0 0"), "end", "show"), ["ab"], 0)

    def test_four_deep(self):
        rows = ("show",)
        for turn in range(4):
            rows = repeated(2, *rows)
        self.check(TWO, script(*rows), ["ab"] * 16, 0)
        rows = ("when 0 a",) * 4 + ("show",) + ("end",) * 4
        self.check(TWO, script(*rows), ["ab"], 0)
        self.check(TWO, script(*rows, *rows), ["ab"] * 2, 0)

    def test_one_behind_another(self):
        self.check(TWO, script(*repeated(1, "show"), "rake 1", *repeated(2, "show")), ["ab", "ba", "ba"], 1)

    def test_sixty_rows(self):
        self.check(TWO, script(*["show"] * 60), ["ab"] * 60, 0)
        self.check(TWO, script(*repeated(1, *["show"] * 58)), ["ab"] * 58, 0)


class ScriptErrors(unittest.TestCase):
    def check(self, text, row):
        with self.subTest(text), self.assertRaises(ScriptError) as caught:
            run_script(SIX, text)
        self.assertEqual(caught.exception.row, row)

    def test_rows_that_are_none_by_their_words(self):
        for wrong in WRONG_ROWS:
            if wrong:
                self.check(wrong, 0)
            self.check(script("show", wrong), 1)
            self.check(script("rake 99", "drop 99 x", wrong, "x"), 2)
            self.check(script("repeat 0", wrong, "end", "end"), 1)
            self.check(script("when 99 a", "when 0 a", wrong), 2)

    def test_rows_without_words(self):
        self.check("\n", 0)
        self.check("show\n", 1)
        self.check("\nshow", 0)
        self.check("show\n\nshow", 1)
        self.check("show\r\nshow", 0)

    def test_an_end_without_a_block(self):
        self.check("end", 0)
        self.check(script("show", "end"), 1)
        self.check(script(*repeated(1, "show"), "end"), 3)
        self.check(script("end", "repeat 1"), 0)
        self.check(script("when 0 a", "end", "end", "x"), 2)

    def test_a_missing_end(self):
        self.check("repeat 1", 1)
        self.check("when 0 a", 1)
        self.check(script("repeat 0", "show"), 2)
        self.check(script("repeat 1", "repeat 1", "end"), 3)
        self.check(script("rake 1 0", "when 0 a", "end", "when 0 a", "show", "show"), 6)
        self.check(script("repeat 1", *["show"] * 59), 60)

    def test_a_fifth_block(self):
        for block in ("repeat 1", "when 0 a", "repeat 0"):
            for outer in ("repeat 2", "when 0 b"):
                self.check(script(*[outer] * 4, block, "show", *["end"] * 5), 4)
                self.check(script("show", *[outer] * 4, "show", block), 6)
        self.check(script(*["repeat 1"] * 4, "end", "repeat 1", "repeat 1", "x"), 6)
        self.check(script(*["repeat 1"] * 4, "x", "repeat 1"), 4)

    def test_the_sixty_first_row(self):
        self.check(script(*["show"] * 61), 60)
        self.check(script(*["show"] * 80), 60)
        self.check(script(*["show"] * 60, "x"), 60)
        self.check(script(*["show"] * 60, ""), 60)
        self.check(script(*["show"] * 59, "x", "show"), 59)
        self.check(script("repeat 1", *["show"] * 59, "end"), 60)
        self.check(script(*["show"] * 60, "x", "x"), 60)
        self.check(script("show", "x", *["show"] * 60), 1)

    def test_they_come_ahead_of_what_the_execution_raises(self):
        self.check(script("rake 99", "x"), 1)
        self.check(script("paper 99", "repeat 1"), 2)
        self.check(script(*repeated(99, *repeated(99)), "end"), 4)

    def test_they_do_not_ask_the_bath(self):
        for row in ("drop 99 x", "rake 1", "rake 1 2 3", "rake 99 -99", "comb 10 0 0", "paper 99", "paper 1 0",
                    "paper 0 0", "when 99 x", "comb " + " ".join(["1"] * 40)):
            rows = ("repeat 0", row) + (("end",) if row[0] == "w" else ()) + ("end", "show")
            self.assertEqual(run_script(SIX, script(*rows))[1], ["abcdef"])


class FailedExecutions(unittest.TestCase):
    def check(self, text, row, bath=SIX):
        with self.subTest(text), self.assertRaises(ExecutionFailed) as caught:
            run_script(bath, text)
        self.assertEqual(caught.exception.row, row)

    def test_deeds_that_are_none_for_the_bath(self):
        for row in ("drop 6 x", "drop 99 x", "rake 1", "rake 1 0 0", "rake 10 0", "rake 0 -10", "rake 99 99",
                    "comb 1 0", "comb 1 0 0 0", "comb 0 0 -99", "paper 6", "paper 0 6",
                    "paper 1 0", "paper 0 0", "paper 0 2 1"):
            self.check(row, 0)
            self.check(script("show", "rake 1 0", row, "rake 1"), 2)
            self.check(script("show", *repeated(2, row)), 2)
            self.check(script("when 0 a", row, "end"), 1)
        self.check("drop 1 x", 0, ONE)
        self.check("rake 1 1", 0, TWO)

    def test_an_unknown_cell(self):
        for cell in (6, 10, 99):
            self.check(script(f"when {cell} a", "show", "end"), 0)
            self.check(script("show", *repeated(1, f"when {cell} .", "end")), 2)
        self.check(script("when 1 a", "end"), 0, ONE)

    def test_only_when_it_is_executed(self):
        self.assertEqual(run_script(SIX, script("when 0 b", "drop 9 x", "end", "show"))[1], ["abcdef"])
        self.check(script("when 0 a", "drop 9 x", "end", "show"), 1)
        rows = repeated(3, "when 0 b", "rake 1", "end", "rake 1 0")
        self.check(script("show", *rows), 3)

    def test_the_first_one_that_is_executed(self):
        self.check(script("when 0 b", "rake 1", "end", "comb 1", "paper 9"), 3)


class TooLongScripts(unittest.TestCase):
    def check(self, steps, *rows):
        """Check that some rows take so many steps, by rows ahead of and behind them that take the rest of 300."""
        full, rest = divmod(300 - steps, 100)
        others = list(repeated(99)) * full + (list(repeated(rest - 1)) if rest else [])
        for whole in (others + list(rows), list(rows) + others):
            with self.subTest(script(*whole)):
                run_script(SIX, script(*whole))
                for more in ("rake 0 0", "show", "rake 1", "drop 99 x"):
                    with self.assertRaises(TooLong):
                        run_script(SIX, script(*whole, more))
                for more in (("repeat 0", "end"), ("when 0 a", "end"), ("when 99 a", "end")):
                    with self.assertRaises(TooLong):
                        run_script(SIX, script(*whole, *more))

    def test_single_rows(self):
        self.check(0)
        self.check(1, "show")
        self.check(1, "rake 3 3")
        self.check(2, "paper 0", "drop 0 a")

    def test_repeats(self):
        self.check(1, *repeated(0, "show", "show"))
        self.check(2, *repeated(1))
        self.check(3, *repeated(1, "show"))
        self.check(6, *repeated(5))
        self.check(11, *repeated(5, "show"))
        self.check(16, *repeated(5, "show", "show"))
        self.check(100, *repeated(99))
        self.check(199, *repeated(99, "show"))
        self.check(298, *repeated(99, "rake 0 0", "show"))

    def test_whens(self):
        self.check(1, "when 0 z", "show", "end")
        self.check(1, "when 0 z", "show", "show", "end")
        self.check(2, "when 0 z", "end", "when 0 y", "end")
        self.check(3, "when 5 f", "show", "show", "end")
        self.check(4, "when 5 f", "when 0 a", "show", "end", "show", "end")

    def test_blocks_in_blocks(self):
        self.check(1 + 3 * (1 + 1 + 2 * (1 + 1)), *repeated(3, *repeated(2, "show")))
        self.check(1 + 4 * (1 + 1), *repeated(4, "when 0 z", "show", "end"))
        self.check(1 + 4 * (1 + 1 + 1), *repeated(4, *repeated(0, "show"), "show"))
        four = repeated(2, *repeated(2, *repeated(2, *repeated(2))))
        self.check(1 + 2 * (1 + 1 + 2 * (1 + 1 + 2 * (1 + 1 + 2))), *four)

    def test_exactly_three_hundred(self):
        rows = repeated(99, "show", "show")
        self.assertEqual(len(run_script(SIX, script(*rows, "show", "show"))[1]), 200)
        with self.assertRaises(TooLong):
            run_script(SIX, script(*rows, "show", "show", "show"))

    def test_a_when_whose_sign_lies_there(self):
        rows = repeated(74, "when 0 a", "show", "show", "end") + ("show",) * 2
        self.assertEqual(len(run_script(SIX, script(*rows, "show"))[1]), 151)
        with self.assertRaises(TooLong):
            run_script(SIX, script(*rows, "show", "show"))

    def test_the_step_ahead_of_the_rows_of_a_repeat(self):
        # 299 steps, then the repeat is the last step that can be, and its rows are one too many.
        rows = repeated(99, "show", "show") + ("show",)
        run_script(SIX, script(*rows, *repeated(0, "show")))
        with self.assertRaises(TooLong):
            run_script(SIX, script(*rows, *repeated(1)))

    def test_what_comes_first_is_raised(self):
        rows = repeated(99, "show", "show")
        with self.assertRaises(ExecutionFailed) as caught:
            run_script(SIX, script(*rows, "show", "rake 1", "show"))
        self.assertEqual(caught.exception.row, 5)
        with self.assertRaises(TooLong):
            run_script(SIX, script(*rows, "show", "show", "rake 1"))
        with self.assertRaises(TooLong):
            run_script(SIX, script(*rows, *repeated(99, "show", "when 0 z", "rake 1", "end")))

    def test_no_script_runs_for_ever(self):
        with self.assertRaises(TooLong):
            run_script(SIX, script(*repeated(99, *repeated(99, *repeated(99, *repeated(99))))))


def tree_of(rows):
    """Return the list of the rows of a right script, a block as a list of its first row and its rows."""
    stack = [[]]
    for number, row in enumerate(rows):
        if row == "end":
            block = stack.pop()
            stack[-1].append(block)
        elif re.match("repeat|when", row):
            stack.append([(number, row)])
        else:
            stack[-1].append((number, row))
    return stack[0]


class SlowRun:
    """A second way to execute a script: by flat lists of rows, which blocks put in front of what is to be done."""

    def __init__(self, bath, rows):
        self.width, self.height, self.cells = bath.width, bath.height, bath.cells
        self.waiting, self.output, self.history, self.steps = tree_of(rows), [], [], 0

    def ended(self):
        """Return how it ends: None, "too long", or the row that fails."""
        while self.waiting:
            now = self.waiting.pop(0)
            if now == "turn":
                self.steps += 1
                if self.steps > 300:
                    return "too long"
                continue
            self.steps += 1
            if self.steps > 300:
                return "too long"
            block = now[1:] if isinstance(now, list) else None
            number, row = now[0] if block is not None else now
            word, *rest = row.split()
            if not self.run(word, rest, block):
                return number
        return None

    def run(self, word, rest, block):
        """Execute a row, and return whether it could be."""
        if word == "show":
            self.output.append(self.cells)
        elif word == "repeat":
            self.waiting = (["turn"] + block) * int(rest[0]) + self.waiting
        elif word == "when":
            if int(rest[0]) >= len(self.cells):
                return False
            if self.cells[int(rest[0])] == rest[1]:
                self.waiting = block + self.waiting
        else:
            return self.work(word, rest)
        return True

    def work(self, word, rest):
        """Do a deed, and return whether it could be done."""
        numbers = [int(one) for one in rest if one not in LETTERS]
        if word in ("rake", "comb"):
            if len(numbers) != (self.height if word == "rake" else self.width) or max(map(abs, numbers)) > 9:
                return False
            deed = (word, tuple(numbers))
        else:
            if max(numbers) >= len(self.cells) or sorted(set(numbers)) != numbers:
                return False
            deed = ("drop", numbers[0], rest[1]) if word == "drop" else ("paper", tuple(numbers))
        texts, papers = slow_done(self.width, self.height, self.cells, (deed,))
        self.cells = texts[0]
        self.output += papers
        self.history.append(deed)
        return True


def some_rows(chance, width, height, depth, least):
    """Return some rows of a script."""
    rows = []
    for turn in range(chance.randint(least, 4)):
        kind = chance.choice(["drop", "rake", "comb", "paper", "show", "repeat", "when", "repeat", "when"])
        cells = sorted(chance.sample(range(width * height), chance.randint(1, width * height)))
        strides = height if kind == "rake" else width
        if kind in ("repeat", "when"):
            if depth < 4:
                head = chance.choice(["0", "1", "3", "5", "12"]) if kind == "repeat" else (
                    f"{chance.choice(cells) if chance.random() < 0.97 else 12} {chance.choice('ab.')}")
                rows += [f"{kind} {head}"] + some_rows(chance, width, height, depth + 1, 0) + ["end"]
        elif kind == "drop":
            rows.append(f"drop {chance.choice(cells) if chance.random() < 0.98 else 12} {chance.choice('ab')}")
        elif kind == "show":
            rows.append("show")
        elif kind == "paper":
            rows.append("paper " + " ".join(map(str, cells)))
        else:
            count = strides if chance.random() < 0.98 else strides + 1
            rows.append(" ".join([kind] + [str(chance.randint(-9, 9)) for stride in range(count)]))
    return rows


class SomeScripts(unittest.TestCase):
    def test_against_a_slow_way(self):
        ends = {"right": 0, "failed": 0, "too long": 0}
        for width, height in SIZES:
            chance = random.Random(width * 10 + height)
            for turn in range(40):
                bath = Bath(width, height, some_cells(width, height, turn).translate(str.maketrans(
                    LETTERS, "ab" * 13)))
                rows = some_rows(chance, width, height, 0, 2)
                while len(rows) > 60:
                    rows = some_rows(chance, width, height, 0, 2)
                slow = SlowRun(bath, rows)
                wanted = slow.ended()
                with self.subTest(bath=bath.cells, rows=rows):
                    ends[self.compare(bath, rows, slow, wanted)] += 1
        self.assertGreater(min(ends.values()), 20, ends)

    def compare(self, bath, rows, slow, wanted):
        """Check how a script ends, and return it."""
        if wanted == "too long":
            with self.assertRaises(TooLong):
                run_script(bath, script(*rows))
            return wanted
        if wanted is not None:
            with self.assertRaises(ExecutionFailed) as caught:
                run_script(bath, script(*rows))
            self.assertEqual(caught.exception.row, wanted)
            return "failed"
        table, output = run_script(bath, script(*rows))
        self.assertEqual((table.bath_now.cells, output, table.history), (slow.cells, slow.output, slow.history))
        return "right"


class WhatIsKept(unittest.TestCase):
    def test_arguments_are_as_before_and_results_equal(self):
        bath, text = Bath(2, 1, "ab"), "drop 0 x\nshow\npaper 1"
        first = None
        for turn in range(2):
            table, output = run_script(bath, text)
            self.assertEqual((table.bath_now.cells, output), ("x.", ["xa", "a"]))
            output.clear()
            table.drop(0, "y")
            self.assertIsNot(table, first)
            first = table
            for wrong in ("x", "rake 1 1"):
                with self.assertRaises((ScriptError, ExecutionFailed)):
                    run_script(bath, wrong)
            self.assertEqual(bath, TWO)

    def test_kinds(self):
        self.assertIsInstance(run_script(TWO, ""), tuple)
        self.assertEqual(len(run_script(TWO, "")), 2)
