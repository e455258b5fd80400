"""Points 22 and 23: a table that is worked on."""

import random
import unittest

from rakedpapers.baths import Bath
from rakedpapers.errors import BathError, InvalidDeed, InvalidName, InvalidOperation, UnknownKept
from rakedpapers.tables import Table, Trial
from tests.helpers import LETTERS, SIZES, WRONG_DEEDS, slow_done, some_cells, some_deed

SIX = Bath(3, 2, "abcdef")
WRONG_NAMES = ["", "abcdefghi", "A", "aB", "a1", "a b", " a", "a_b", ".", "a\n", "\u00e4", "?", "-"]

# One operation of each kind, which change a bath of three columns and two rows, ahead of each.
EACH = [
    ("drop", 1, "z"), ("rake", (1, 0)), ("comb", (1, 0, 0)), ("keep_as", "one"), ("paper", (0, 4)), ("fetch", "one"),
]

# None of these is an operation in a list.
WRONG_OPERATIONS = [
    (), ["undo"], "undo", "", 5, None, True, {"undo": 1},
    ("",), ("Undo",), ("undo ",), (1,), (None,), (True,), (("undo",),), ([],), (["undo"],),
    ("history",), ("bath_now",), ("hold",), ("apply_all", []), ("tried_out", [], True), ("replay", SIX, []),
    ("execute", ("undo",)), ("keep", "a"), ("keep_as",), ("keep_as", "a", "b"), ("fetch",), ("fetch", "a", "b"),
    ("drop",), ("drop", 0), ("drop", 0, "a", "a"), ("rake",), ("rake", 1, 0), ("comb",), ("comb", (0, 0, 0), 1),
    ("paper",), ("paper", (0,), (1,)), ("undo", 1), ("undo", None), ("redo", 1), ("redo", ()), (0, "drop", "a"),
    ("__init__", SIX), ("undo", "redo"),
]


def view(table):
    """Return all that can be read of a table."""
    return (table.bath_now.cells, table.bath_now.width, table.bath_now.height, table.papers_made,
            table.colours_now, table.kept_under, table.history)


def deep_view(table):
    """Return all that can be read of a table, also by undoing and redoing all, and leave it as it was."""
    views, behind = [view(table)], []
    undone = redone = 0
    while table.redo():
        behind.append(view(table))
        redone += 1
    for turn in range(redone):
        table.undo()
    while table.undo():
        views.append(view(table))
        undone += 1
    for turn in range(undone):
        table.redo()
    return views, behind


def worked(operations, bath=SIX):
    """Return a table on which some operations were executed."""
    table = Table(bath)
    table.apply_all(operations)
    return table


def failing(table, operations):
    """Return the error that apply_all raises."""
    try:
        table.apply_all(operations)
    except BathError as error:
        return error
    return None


class Beginning(unittest.TestCase):
    def test_nothing_is_done(self):
        table = Table(SIX)
        self.assertEqual(view(table), ("abcdef", 3, 2, [], "abcdef", [], []))
        self.assertEqual(table.bath_now, SIX)
        self.assertIsInstance(table.bath_now, Bath)
        self.assertIs(table.undo(), False)
        self.assertIs(table.redo(), False)
        self.assertEqual(view(table), ("abcdef", 3, 2, [], "abcdef", [], []))

    def test_one_cell(self):
        table = Table(Bath(1, 1, "."))
        self.assertEqual(view(table), (".", 1, 1, [], "", [], []))
        self.assertEqual(table.drop(0, "a"), 1)
        self.assertEqual(table.drop(0, "a"), 0)
        self.assertEqual(table.rake((5,)), 0)
        self.assertEqual(table.comb((-9,)), 0)
        self.assertEqual(table.paper((0,)), "a")
        self.assertEqual(table.paper((0,)), ".")
        self.assertEqual(view(table)[:5], (".", 1, 1, ["a", "."], ""))


class Deeds(unittest.TestCase):
    def test_drop(self):
        table = Table(SIX)
        self.assertEqual(table.drop(1, "z"), 4)
        self.assertEqual(table.bath_now.cells, "bzbdbf")
        self.assertEqual(table.drop(5, "f"), 3)
        self.assertEqual(table.bath_now.cells, "bzfbff")
        self.assertEqual(table.history, [("drop", 1, "z"), ("drop", 5, "f")])

    def test_rake_and_comb(self):
        table = Table(SIX)
        self.assertEqual(table.rake((1, 0)), 3)
        self.assertEqual(table.bath_now.cells, "cabdef")
        self.assertEqual(table.comb((0, 0, -1)), 2)
        self.assertEqual(table.bath_now.cells, "cafdeb")
        self.assertEqual(table.rake((3, -9)), 0)
        self.assertEqual(table.history, [("rake", (1, 0)), ("comb", (0, 0, -1)), ("rake", (3, -9))])

    def test_cells_that_get_an_equal_sign_do_not_count(self):
        self.assertEqual(Table(Bath(3, 1, "aab")).rake((1,)), 2)
        self.assertEqual(Table(Bath(4, 1, "abab")).rake((2,)), 0)
        self.assertEqual(Table(Bath(4, 1, "abab")).rake((1,)), 4)
        self.assertEqual(Table(Bath(3, 1, "zzz")).drop(1, "z"), 0)
        self.assertEqual(Table(Bath(3, 1, "...")).drop(1, "z"), 1)

    def test_paper(self):
        table = Table(SIX)
        self.assertEqual(table.paper((0, 4)), "ae")
        self.assertEqual(table.bath_now.cells, ".bcd.f")
        self.assertEqual(table.paper((0, 1, 2, 3, 4, 5)), ".bcd.f")
        self.assertEqual(table.paper((5,)), ".")
        self.assertEqual(table.papers_made, ["ae", ".bcd.f", "."])
        self.assertEqual(table.colours_now, "")

    def test_colours(self):
        self.assertEqual(Table(Bath(3, 2, "zb.abz")).colours_now, "abz")
        self.assertEqual(Table(Bath(4, 3, LETTERS[14:])).colours_now, LETTERS[14:])

    def test_a_table_goes_on_beyond_twelve_deeds(self):
        table = Table(SIX)
        for turn in range(30):
            self.assertEqual(table.rake((1, 0)), 3)
        self.assertEqual(view(table), ("abcdef", 3, 2, [], "abcdef", [], [("rake", (1, 0))] * 30))

    def test_against_a_slow_way(self):
        for width, height in SIZES:
            chance = random.Random(width * 10 + height)
            text = some_cells(width, height)
            table, recipe, results = Table(Bath(width, height, text)), [], []
            for turn in range(20):
                deed = some_deed(chance, width, height)
                recipe.append(deed)
                results.append(getattr(table, deed[0])(*deed[1:]))
            texts, papers = slow_done(width, height, text, recipe)
            self.assertEqual(view(table)[0], texts[-1])
            self.assertEqual((table.papers_made, table.history), (papers, recipe))
            wanted, taken = [], list(papers)
            for deed, before, behind in zip(recipe, [text] + texts, texts):
                changed = sum(one != other for one, other in zip(before, behind))
                wanted.append(taken.pop(0) if deed[0] == "paper" else changed)
            self.assertEqual(results, wanted)

    def test_what_is_no_deed(self):
        for operations in ([], EACH, EACH + [("undo",), ("undo",)]):
            table = worked(operations)
            before = deep_view(table)
            for deed in WRONG_DEEDS:
                if not isinstance(deed, tuple) or len(deed) < 2:
                    continue
                if deed[0] == "drop" and len(deed) == 3 or deed[0] in ("rake", "comb", "paper") and len(deed) == 2:
                    with self.subTest(deed), self.assertRaises(InvalidDeed):
                        getattr(table, deed[0])(*deed[1:])
            self.assertEqual(deep_view(table), before)


class Keeping(unittest.TestCase):
    def test_what_is_kept_can_be_fetched(self):
        table = Table(SIX)
        table.paper((5,))
        self.assertIs(table.keep_as("one"), False)
        table.drop(0, "z")
        table.paper((0, 1))
        self.assertEqual(table.fetch("one"), "abcde.")
        self.assertEqual(view(table)[:6], ("abcde.", 3, 2, ["f"], "abcde", ["one"]))
        self.assertEqual(table.fetch("one"), "abcde.")
        self.assertEqual(table.history, [
            ("paper", (5,)), ("keep_as", "one"), ("drop", 0, "z"), ("paper", (0, 1)), ("fetch", "one"),
            ("fetch", "one")])

    def test_whether_something_was_kept_before(self):
        table = Table(SIX)
        self.assertIs(table.keep_as("one"), False)
        self.assertIs(table.keep_as("two"), False)
        self.assertIs(table.keep_as("one"), True)
        table.undo()
        self.assertIs(table.keep_as("one"), True)
        for turn in range(3):
            table.undo()
        self.assertIs(table.keep_as("one"), False)

    def test_the_last_keeping_counts(self):
        table = Table(SIX)
        table.keep_as("one")
        table.rake((1, 0))
        table.keep_as("one")
        table.rake((1, 0))
        self.assertEqual(table.fetch("one"), "cabdef")
        for turn in range(3):
            table.undo()
        self.assertEqual(table.bath_now.cells, "cabdef")
        self.assertEqual(table.fetch("one"), "abcdef")

    def test_what_is_kept_stays_when_something_is_fetched(self):
        table = Table(SIX)
        table.keep_as("one")
        table.rake((1, 0))
        table.keep_as("two")
        self.assertEqual(table.fetch("one"), "abcdef")
        self.assertEqual(table.kept_under, ["one", "two"])
        self.assertEqual(table.fetch("two"), "cabdef")
        self.assertEqual(table.bath_now.cells, "cabdef")

    def test_names_ascend(self):
        table = Table(SIX)
        for name in ("b", "aa", "zzzzzzzz", "a", "ab", "b"):
            table.keep_as(name)
        self.assertEqual(table.kept_under, ["a", "aa", "ab", "b", "zzzzzzzz"])

    def test_what_is_kept_has_the_papers(self):
        table = Table(SIX)
        table.paper((0,))
        table.keep_as("a")
        table.paper((1,))
        table.keep_as("b")
        self.assertEqual(table.papers_made, ["a", "b"])
        table.fetch("a")
        self.assertEqual(table.papers_made, ["a"])
        table.paper((2,))
        self.assertEqual(table.papers_made, ["a", "c"])
        table.fetch("b")
        self.assertEqual(table.papers_made, ["a", "b"])

    def test_wrong_names(self):
        for operations in ([], EACH, EACH + [("undo",), ("undo",)]):
            table = worked(operations)
            before = deep_view(table)
            for name in WRONG_NAMES:
                with self.subTest(name), self.assertRaises(InvalidName):
                    table.keep_as(name)
                with self.subTest(name), self.assertRaises(UnknownKept):
                    table.fetch(name)
            self.assertEqual(deep_view(table), before)

    def test_all_lengths_of_names(self):
        for length in range(1, 9):
            self.assertIs(Table(SIX).keep_as("z" * length), False)

    def test_names_that_are_names_of_operations(self):
        operations = [(word, name) for name in ("undo", "redo", "drop", "paper") for word in ("keep_as", "fetch")]
        table = Table(SIX)
        self.assertEqual(table.apply_all(operations), [False, "abcdef"] * 4)
        self.assertEqual(table.history, operations)
        self.assertEqual(table.kept_under, ["drop", "paper", "redo", "undo"])

    def test_unknown_names(self):
        table = Table(SIX)
        with self.assertRaises(UnknownKept):
            table.fetch("one")
        table.keep_as("one")
        for name in ("two", "on", "onee"):
            with self.assertRaises(UnknownKept):
                table.fetch(name)
        self.assertEqual(table.history, [("keep_as", "one")])

    def test_a_name_whose_keeping_was_undone(self):
        table = Table(SIX)
        table.keep_as("one")
        table.undo()
        self.assertEqual(table.kept_under, [])
        with self.assertRaises(UnknownKept):
            table.fetch("one")
        self.assertIs(table.redo(), True)
        self.assertEqual(table.kept_under, ["one"])
        self.assertEqual(table.fetch("one"), "abcdef")


class UndoAndRedo(unittest.TestCase):
    def test_each_kind_of_operation(self):
        table, views = Table(SIX), [view(Table(SIX))]
        for word, *arguments in EACH:
            getattr(table, word)(*arguments)
            self.assertNotEqual(view(table), views[-1])
            views.append(view(table))
        self.assertEqual(table.history, EACH)
        for before, behind in zip(views, views[1:]):
            self.assertNotEqual((before[0], before[5]), (behind[0], behind[5]))
        for turn in range(3):
            for wanted in reversed(views[:-1]):
                self.assertIs(table.undo(), True)
                self.assertEqual(view(table), wanted)
            self.assertIs(table.undo(), False)
            for wanted in views[1:]:
                self.assertIs(table.redo(), True)
                self.assertEqual(view(table), wanted)
            self.assertIs(table.redo(), False)
            self.assertEqual(view(table), views[-1])

    def test_the_operation_that_was_undone_last_comes_first(self):
        table = worked([("rake", (1, 0)), ("drop", 0, "z"), ("undo",), ("undo",)])
        table.redo()
        self.assertEqual(table.history, [("rake", (1, 0))])
        table.undo()
        table.redo()
        table.redo()
        self.assertEqual(table.history, [("rake", (1, 0)), ("drop", 0, "z")])
        table.undo()
        self.assertEqual(table.history, [("rake", (1, 0))])
        table.redo()
        self.assertEqual(table.history, [("rake", (1, 0)), ("drop", 0, "z")])

    def test_no_redo_behind_a_new_operation(self):
        for word, *arguments in EACH + [("rake", (0, 0)), ("keep_as", "two")]:
            table = worked([("keep_as", "one"), ("drop", 0, "y"), ("drop", 2, "x"), ("undo",)])
            getattr(table, word)(*arguments)
            before = view(table)
            self.assertIs(table.redo(), False)
            self.assertEqual(view(table), before)
            table.undo()
            table.undo()
            self.assertIs(table.redo(), True)
            self.assertEqual(table.history, [("keep_as", "one"), ("drop", 0, "y")])

    def test_an_error_does_not_bar_redo(self):
        table = worked([("rake", (1, 0)), ("undo",)])
        for call in (lambda: table.rake((1,)), lambda: table.keep_as(""), lambda: table.fetch("a")):
            with self.assertRaises(BathError):
                call()
        self.assertIs(table.redo(), True)
        self.assertEqual(table.history, [("rake", (1, 0))])

    def test_undo_of_a_deed_that_changes_nothing(self):
        table = worked([("rake", (0, 0))])
        self.assertIs(table.undo(), True)
        self.assertIs(table.undo(), False)

    def test_undo_of_a_fetch_brings_papers_back(self):
        table = worked([("keep_as", "a"), ("paper", (0,)), ("fetch", "a")])
        self.assertEqual(view(table)[:4], ("abcdef", 3, 2, []))
        table.undo()
        self.assertEqual(view(table)[:4], (".bcdef", 3, 2, ["a"]))
        table.redo()
        self.assertEqual(view(table)[:4], ("abcdef", 3, 2, []))


class ApplyAll(unittest.TestCase):
    def test_results(self):
        table = Table(SIX)
        found = table.apply_all(EACH + [("undo",), ("redo",), ("redo",), ("keep_as", "one")])
        self.assertEqual(found, [4, 2, 2, False, "db", "dbzbbf", True, True, False, True])
        self.assertIsInstance(found, list)
        self.assertEqual(table.history, EACH + [("keep_as", "one")])

    def test_no_operations(self):
        table = worked([("rake", (1, 0)), ("undo",)])
        self.assertEqual(table.apply_all([]), [])
        self.assertIs(table.redo(), True)

    def test_undo_and_redo_alone(self):
        table = worked(EACH)
        self.assertEqual(table.apply_all([("undo",)] * 7 + [("redo",)] * 7), ([True] * 6 + [False]) * 2)
        self.assertEqual(Table(SIX).apply_all([("undo",), ("redo",)]), [False, False])

    def test_what_stands_behind_is_undone_one_by_one(self):
        table = worked([("rake", (1, 0)), ("rake", (1, 0))])
        table.undo()
        self.assertEqual(table.bath_now.cells, "cabdef")

    def test_wrong_operations(self):
        for wrong in WRONG_OPERATIONS:
            for ahead in range(3):
                for more in ([], [("undo",)], [wrong], [("rake", ())], [()]):
                    table = worked(EACH[:4] + [("undo",)])
                    before = deep_view(table)
                    operations = [("rake", (1, 0)), ("undo",)][:ahead] + [wrong] + more
                    for call in (table.apply_all, lambda list: table.tried_out(list, True),
                                 lambda list: Table.replay(SIX, list)):
                        with self.subTest(wrong), self.assertRaises(InvalidOperation) as caught:
                            call(operations)
                        self.assertEqual(caught.exception.index, ahead)
                    self.assertEqual(deep_view(table), before)

    def test_wrong_operations_come_ahead_of_all_errors(self):
        table = Table(SIX)
        error = failing(table, [("rake", ()), ("fetch", "a"), ("keep_as", ""), ("drop", 0)])
        self.assertIsInstance(error, InvalidOperation)
        self.assertEqual(error.index, 3)

    def test_an_error_in_the_middle(self):
        fails = [
            (("rake", (10, 0)), InvalidDeed), (("drop", 6, "a"), InvalidDeed), (("comb", ()), InvalidDeed),
            (("paper", (1, 0)), InvalidDeed), (("keep_as", "A"), InvalidName), (("fetch", "none"), UnknownKept),
        ]
        for begin in ([], EACH, EACH + [("undo",)] * 3, EACH + [("undo",)] * 6):
            for middle in ([], [("undo",)], [("redo",), ("redo",), ("undo",)], [("drop", 0, "y"), ("undo",), ("redo",)],
                           [("undo",), ("undo",), ("paper", (0,))], [("keep_as", "two"), ("fetch", "two")]):
                for wrong, error in fails:
                    table = worked(begin)
                    before = deep_view(table)
                    with self.subTest(begin=len(begin), middle=middle, wrong=wrong):
                        self.assertIsInstance(failing(table, middle + [wrong, ("undo",), ("rake", (1, 1))]), error)
                        self.assertEqual(deep_view(table), before)

    def test_the_first_error_is_raised(self):
        table = Table(SIX)
        self.assertIsInstance(failing(table, [("fetch", "a"), ("keep_as", "")]), UnknownKept)
        self.assertIsInstance(failing(table, [("keep_as", ""), ("fetch", "a")]), InvalidName)
        self.assertIsInstance(failing(table, [("keep_as", "a"), ("undo",), ("fetch", "a")]), UnknownKept)
        self.assertIsNone(failing(table, [("keep_as", "a"), ("undo",), ("redo",), ("fetch", "a")]))


class Replay(unittest.TestCase):
    def test_the_table_behind(self):
        table = Table.replay(SIX, EACH)
        self.assertIsInstance(table, Table)
        self.assertEqual(view(table), view(worked(EACH)))
        self.assertEqual(view(Table.replay(SIX, [])), view(Table(SIX)))
        self.assertEqual(view(Table.replay(SIX, table.history)), view(table))

    def test_undo_and_redo_in_it(self):
        operations = EACH + [("undo",), ("undo",), ("redo",)]
        table = Table.replay(SIX, operations)
        self.assertEqual(table.history, EACH[:5])
        self.assertIs(table.redo(), True)
        self.assertEqual(table.history, EACH)
        self.assertEqual(deep_view(table), deep_view(worked(EACH)))

    def test_its_errors(self):
        with self.assertRaises(InvalidDeed):
            Table.replay(SIX, [("rake", (1, 0)), ("rake", (1,))])
        with self.assertRaises(InvalidName):
            Table.replay(SIX, [("keep_as", "")])
        with self.assertRaises(UnknownKept):
            Table.replay(SIX, [("fetch", "a")])

    def test_histories_are_replayed(self):
        for width, height in SIZES:
            chance = random.Random(width * 10 + height)
            bath = Bath(width, height, some_cells(width, height))
            table = Table(bath)
            for turn in range(60):
                operation = chance.choice([
                    some_deed(chance, width, height), some_deed(chance, width, height), ("undo",), ("redo",),
                    ("keep_as", chance.choice("ab")), ("fetch", chance.choice(table.kept_under or ["none"]))])
                if operation != ("fetch", "none"):
                    table.apply_all([operation])
            self.assertEqual(view(Table.replay(bath, table.history)), view(table))


class Trials(unittest.TestCase):
    def setUp(self):
        self.table = worked(EACH + [("undo",), ("undo",)])
        self.before = deep_view(self.table)

    def test_all_is_as_before(self):
        with Trial(self.table) as trial:
            self.assertIsInstance(trial, Trial)
            self.assertEqual(self.table.drop(0, "y"), 4)
            self.table.keep_as("two")
            self.table.undo()
            self.table.undo()
            self.table.undo()
            self.assertEqual(self.table.history, EACH[:3])
        self.assertEqual(deep_view(self.table), self.before)

    def test_undo_and_redo_alone_in_the_block(self):
        with Trial(self.table):
            self.table.redo()
            self.table.redo()
        self.assertEqual(deep_view(self.table), self.before)
        with Trial(self.table):
            self.table.undo()
        self.assertEqual(deep_view(self.table), self.before)
        with Trial(self.table):
            pass
        self.assertEqual(deep_view(self.table), self.before)

    def test_hold_keeps_all(self):
        for early in (True, False):
            table = worked(EACH)
            with Trial(table) as trial:
                if early:
                    trial.hold()
                table.rake((1, 1))
                table.undo()
                table.undo()
                if not early:
                    trial.hold()
                    trial.hold()
            self.assertEqual(table.history, EACH[:5])
            self.assertIs(table.redo(), True)
            self.assertEqual(table.history, EACH)

    def test_an_error_in_the_block(self):
        with self.assertRaises(KeyError):
            with Trial(self.table):
                self.table.drop(0, "y")
                raise KeyError("y")
        self.assertEqual(deep_view(self.table), self.before)
        with self.assertRaises(InvalidDeed):
            with Trial(self.table):
                self.table.drop(0, "y")
                self.table.drop(9, "y")
        self.assertEqual(deep_view(self.table), self.before)

    def test_an_error_behind_hold(self):
        with self.assertRaises(UnknownKept):
            with Trial(self.table) as trial:
                self.table.drop(0, "y")
                trial.hold()
                self.table.rake((0, 1))
                self.table.fetch("none")
        self.assertEqual(self.table.history, EACH[:4] + [("drop", 0, "y"), ("rake", (0, 1))])

    def test_one_within_another(self):
        for hold_outer in (False, True):
            for hold_inner in (False, True):
                table = worked(EACH[:1])
                with Trial(table) as outer:
                    table.rake((1, 0))
                    with Trial(table) as inner:
                        table.comb((1, 1, 1))
                        if hold_inner:
                            inner.hold()
                    self.assertEqual(len(table.history), 3 if hold_inner else 2)
                    table.drop(5, "y")
                    if hold_outer:
                        outer.hold()
                wanted = EACH[:1]
                if hold_outer:
                    wanted = wanted + [("rake", (1, 0))] + [("comb", (1, 1, 1))] * hold_inner + [("drop", 5, "y")]
                self.assertEqual(table.history, wanted)

    def test_one_behind_another(self):
        with Trial(self.table) as trial:
            self.table.rake((1, 1))
            trial.hold()
        behind = deep_view(self.table)
        with Trial(self.table):
            self.table.rake((1, 1))
        self.assertEqual(deep_view(self.table), behind)

    def test_hold_counts_for_its_block_alone(self):
        trial = Trial(self.table)
        trial.hold()
        with trial:
            self.table.rake((1, 1))
        self.assertEqual(deep_view(self.table), self.before)

    def test_the_beginning_is_that_of_the_block(self):
        table = Table(SIX)
        trial = Trial(table)
        table.rake((1, 0))
        with trial:
            table.rake((1, 0))
        self.assertEqual(table.history, [("rake", (1, 0))])

    def test_two_tables(self):
        other = Table(SIX)
        with Trial(self.table), Trial(other) as trial:
            self.table.rake((1, 1))
            other.rake((1, 1))
            trial.hold()
        self.assertEqual(deep_view(self.table), self.before)
        self.assertEqual(other.history, [("rake", (1, 1))])

    def test_apply_all_in_the_block(self):
        with Trial(self.table):
            self.assertEqual(self.table.apply_all([("rake", (1, 0)), ("undo",)]), [3, True])
            self.table.apply_all([("keep_as", "two")])
        self.assertEqual(deep_view(self.table), self.before)


class TriedOut(unittest.TestCase):
    def setUp(self):
        self.table = worked(EACH + [("undo",), ("undo",)])
        self.before = deep_view(self.table)

    def test_not_kept(self):
        found = self.table.tried_out([("redo",), ("rake", (1, 0)), ("keep_as", "one"), ("undo",)], False)
        self.assertEqual(found, [True, 3, True, True])
        self.assertIsInstance(found, list)
        self.assertEqual(deep_view(self.table), self.before)

    def test_kept(self):
        found = self.table.tried_out([("redo",), ("rake", (1, 0)), ("keep_as", "one"), ("undo",)], True)
        self.assertEqual(found, [True, 3, True, True])
        self.assertEqual(self.table.history, EACH[:5] + [("rake", (1, 0))])
        self.assertIs(self.table.redo(), True)
        self.assertEqual(self.table.history, EACH[:5] + [("rake", (1, 0)), ("keep_as", "one")])

    def test_no_operations(self):
        for keep in (True, False):
            self.assertEqual(self.table.tried_out([], keep), [])
            self.assertEqual(deep_view(self.table), self.before)

    def test_errors(self):
        for keep in (True, False):
            for wrong, error in ((("rake", (1,)), InvalidDeed), (("keep_as", ""), InvalidName),
                                 (("fetch", "none"), UnknownKept), (("hold",), InvalidOperation)):
                with self.assertRaises(error):
                    self.table.tried_out([("undo",), ("drop", 0, "y"), wrong], keep)
                self.assertEqual(deep_view(self.table), self.before)


class WhatIsKept(unittest.TestCase):
    def test_lists_are_new_for_each_reading(self):
        table = worked(EACH)
        before = view(table)
        for name in ("papers_made", "kept_under", "history"):
            found = getattr(table, name)
            self.assertIsInstance(found, list)
            found.append("x")
            found[0] = "y"
        self.assertEqual(view(table), before)

    def test_lists_of_results_are_the_callers(self):
        table = Table(SIX)
        table.apply_all(EACH).clear()
        self.assertEqual(table.history, EACH)

    def test_arguments_are_as_before(self):
        bath, operations = Bath(3, 2, "abcdef"), list(EACH)
        table = Table.replay(bath, operations)
        table.apply_all(operations)
        table.tried_out(operations, True)
        self.assertEqual((bath, operations), (SIX, EACH))
        operations.clear()
        self.assertEqual(table.history, EACH * 3)

    def test_tables_do_not_share_anything(self):
        bath = Bath(3, 2, "abcdef")
        one, other = Table(bath), Table(bath)
        one.rake((1, 0))
        one.keep_as("a")
        self.assertEqual(view(other), view(Table(SIX)))
        self.assertEqual(bath.cells, "abcdef")

    def test_what_is_read_does_not_follow_the_table(self):
        table = Table(SIX)
        bath, history = table.bath_now, table.history
        table.rake((1, 0))
        self.assertEqual((bath.cells, history), ("abcdef", []))

    def test_properties_are_only_read(self):
        table = Table(SIX)
        for name in ("bath_now", "papers_made", "colours_now", "kept_under", "history"):
            with self.assertRaises(AttributeError):
                setattr(table, name, None)
            self.assertIsInstance(vars(Table)[name], property)

    def test_methods_stand_in_their_classes(self):
        for name in ("drop", "rake", "comb", "paper", "keep_as", "fetch", "undo", "redo", "apply_all", "tried_out",
                     "replay"):
            self.assertIn(name, vars(Table))
        self.assertIsInstance(vars(Table)["replay"], classmethod)
        self.assertIn("hold", vars(Trial))
