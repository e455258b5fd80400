"""The examples of the interface, each as it is written."""

import unittest

from rakedpapers.errors import BathError

BATHS = [
    '''
>>> from rakedpapers.baths import Bath, done
>>> bath = Bath(3, 2, "abcdef")
>>> told = [done(bath, (("drop", 1, "z"),))[0].cells, done(bath, (("rake", (1, 0)),))[0].cells]
>>> told.append(done(bath, (("comb", (1, 0, 0)),))[0].cells)
>>> marbled, papers = done(bath, (("paper", (0, 2)),))
>>> told + [marbled.cells, papers]
['bzbdbf', 'cabdef', 'dbcaef', '.b.def', ['ac']]
''',
    '''
>>> from rakedpapers.baths import Bath, ever, first_time, steps
>>> bath, recipe = Bath(3, 2, "abcdef"), (("rake", (1, 0)), ("paper", (0, 1)), ("drop", 5, "z"))
>>> told = [[one.cells for one in steps(bath, recipe)], first_time(bath, recipe, 4, "f")]
>>> told + [first_time(bath, recipe, 0, "q"), ever(bath, recipe, ".")]
[['cabdef', '..bdef', '..fefz'], 3, None, (0, 1)]
''',
    '''
>>> from rakedpapers.baths import Bath, done
>>> done(Bath(3, 2, "abcdef"), (("rake", (1,)),))
raises InvalidRecipe(index=0)
''',
]

ORIGINS = [
    '''
>>> from rakedpapers.origins import copies, lost, sources
>>> recipe = (("rake", (1, 0)), ("paper", (0, 1)), ("drop", 5, "z"))
>>> cells, papers = sources(3, 2, recipe)
>>> [cells[:3], cells[3:], papers, copies(3, 2, recipe), lost(3, 2, recipe)]
[(('paper', 1), ('paper', 1), ('cell', 5)), (('cell', 4), ('cell', 5), ('drop', 2)), [(('cell', 2), ('cell', 0))], {0: 1, 1: 0, 2: 1, 3: 0, 4: 1, 5: 2}, (1, 3)]
''',
    '''
>>> from rakedpapers.origins import alike, parting_bath, told
>>> one, other = (("rake", (1,)),), (("rake", (-1,)),)
>>> marks = [alike(2, 1, one, other), alike(3, 1, one, other), parting_bath(2, 1, one, ())]
>>> marks.append(told(3, 2, (("rake", (1, 0)), ("paper", (0, 1)), ("drop", 5, "z")), ("ac",)))
>>> marks + [told(3, 1, (("drop", 0, "z"), ("paper", (0,))), ("y",))]
[True, False, 'ab', 'c?a???', None]
''',
    '''
>>> from rakedpapers.origins import told
>>> told(3, 2, (("paper", (0, 1)),), ())
raises InvalidPapers(index=0)
''',
]

UNDOING = [
    '''
>>> from rakedpapers.baths import Bath
>>> from rakedpapers.undoing import opposite, shortened, undoing
>>> bath = Bath(3, 2, "abcdef")
>>> marks = [opposite(bath, ("rake", (1, -1))), shortened(bath, (("rake", (2, 0)), ("comb", (2, 0, 0)), ("rake", (1, 4))))]
>>> marks + [undoing(bath, (("rake", (1, 0)), ("comb", (1, 0, 0)))), undoing(bath, (("drop", 0, "z"),))]
[('rake', (2, 1)), (('rake', (0, 1)),), (('comb', (1, 0, 0)), ('rake', (2, 0))), None]
''',
    '''
>>> from rakedpapers.baths import Bath
>>> from rakedpapers.undoing import opposite
>>> opposite(Bath(3, 2, "abcdef"), ("drop", 0, "z"))
raises InvalidDeed()
''',
]

FEWEST = [
    '''
>>> from rakedpapers.baths import Bath
>>> from rakedpapers.fewest import can_become, draw_count, fewest_draws, fewest_drops, first_drops, recipes_of_drops
>>> bath, still = Bath(2, 2, "abcd"), Bath(3, 1, "...")
>>> marks = [draw_count(bath), can_become(bath, "dcba"), fewest_draws(bath, "dcba"), fewest_draws(bath, "aabb")]
>>> marks = marks + [fewest_drops(still, ".a.", 3), first_drops(still, "aba", 3), fewest_drops(still, "aba", 1)]
>>> marks + [recipes_of_drops(Bath(2, 1, "a."), 1), recipes_of_drops(Bath(2, 1, "a."), 2)]
[24, True, 2, None, 1, ((1, 'a'), (1, 'b')), None, 1, 26]
''',
    '''
>>> from rakedpapers.baths import Bath
>>> from rakedpapers.fewest import draw_count
>>> draw_count(Bath(4, 2, "........"))
raises TooMany()
''',
]

LASTING = [
    '''
>>> from rakedpapers.baths import Bath
>>> from rakedpapers.lasting import ahead_count, first_ahead, last_drops
>>> bath = Bath(3, 1, "aba")
>>> marks = [last_drops(bath), last_drops(Bath(3, 1, "abc")), ahead_count(bath, 1, "ab"), ahead_count(bath, 1, "b")]
>>> marks + [first_ahead(bath, 1, "ab"), first_ahead(bath, 0, "ab"), first_ahead(bath, 1, "b")]
[(0, 1, 2), (0, 2), 9, 0, '.a.', 'ba.', None]
''',
    '''
>>> from rakedpapers.baths import Bath
>>> from rakedpapers.lasting import ahead_count
>>> ahead_count(Bath(3, 1, "abc"), 1, "abc")
raises NoDrop()
''',
]

AGAIN = [
    '''
>>> from rakedpapers.again import after_times, period
>>> from rakedpapers.baths import Bath
>>> bath, recipe = Bath(3, 2, "abcdef"), (("rake", (1, 0)),)
>>> marks = [after_times(bath, recipe, 10 ** 18).cells, period(bath, recipe)]
>>> marks + [period(Bath(3, 1, "..."), (("drop", 1, "a"),))]
['cabdef', (0, 3), (2, 1)]
''',
]

CARRYING = [
    '''
>>> from rakedpapers.carrying import carried, first_paper, least_carried, moments, paper_count
>>> from rakedpapers.baths import Bath
>>> one, other = Bath(2, 1, "ab"), Bath(2, 1, "c.")
>>> found = [bath.cells for bath in carried(one, other, (1,))] + [least_carried(one, other, "cb")]
>>> found + [paper_count(Bath(4, 1, "abab"), "ab"), first_paper(one, "b"), moments(one, (("rake", (1,)),), (0,), "b")]
['a.', 'cb', (1,), 3, (1,), [1]]
''',
    '''
>>> from rakedpapers.carrying import carried
>>> from rakedpapers.baths import Bath
>>> carried(Bath(2, 1, "ab"), Bath(1, 2, "ab"), (0,))
raises UnlikeSizes()
''',
]

GUESSES = [
    '''
>>> from rakedpapers.guesses import first_order, first_rake, nth_seen, orders_to, rake_count, seen_times, sure_strides
>>> from rakedpapers.baths import Bath
>>> two, three = Bath(2, 1, "ab"), Bath(3, 1, "abc")
>>> recipe = (("drop", 0, "x"), ("rake", (1,)))
>>> found = [orders_to(two, recipe, "xb"), first_order(two, recipe, "xb"), rake_count(three, (0,), "c")]
>>> found = found + [first_rake(three, (0,), "c"), sure_strides(three, (0,), "?")]
>>> found + [seen_times(three, (1,), 0, "a", 10), nth_seen(three, (1,), 0, "b", 10 ** 15)]
[1, (1, 0), 1, (1,), (None,), 4, 3000000000000002]
''',
    '''
>>> from rakedpapers.guesses import seen_times
>>> from rakedpapers.baths import Bath
>>> seen_times(Bath(2, 1, "ab"), (1, 1), 0, "a", 1)
raises InvalidDeed()
''',
]

TABLES = [
    '''
>>> from rakedpapers.tables import Table
>>> from rakedpapers.baths import Bath
>>> table = Table(Bath(2, 1, "ab"))
>>> found = table.apply_all([("drop", 0, "x"), ("rake", (1,)), ("paper", (0,)), ("keep_as", "y")])
>>> [found, table.bath_now.cells, table.papers_made, table.colours_now, table.undo(), table.undo(), table.bath_now.cells]
[[2, 2, 'a', False], '.x', ['a'], 'x', True, True, 'ax']
''',
    '''
>>> from rakedpapers.tables import Table
>>> from rakedpapers.baths import Bath
>>> Table(Bath(2, 1, "ab")).rake((10,))
raises InvalidDeed()
''',
]

PEEKING = [
    '''
>>> from rakedpapers.peeking import Peeker
>>> peeker = Peeker(2, 1, (("drop", 0, "x"),))
>>> found = [peeker.useful(), peeker.fewest_looks(), peeker.sure_cells(), peeker.seen(1, "b")]
>>> found + [peeker.known, peeker.useful(), peeker.sure_cells()]
[(1,), 1, 'x?', 1, 'b?', (), 'xb']
''',
    '''
>>> from rakedpapers.peeking import Peeker
>>> Peeker(2, 1, (("drop", 0, "x"),)).seen(0, ".")
raises Clash()
''',
]

NOTATION = [
    r'''
>>> from rakedpapers.notation import drawing, read_recipe, recipe_text, source_map
>>> from rakedpapers.baths import Bath
>>> bath, recipe = Bath(2, 2, "ab.c"), (("drop", 0, "x"), ("rake", (1, -2)))
>>> found = [drawing(bath), recipe_text(recipe), read_recipe(bath, recipe_text(recipe)) == recipe]
>>> found + [source_map(2, 1, recipe[:1])]
['ab\n.c', 'drop 0 x\nrake 1 -2', True, 'd0 0']
''',
    '''
>>> from rakedpapers.notation import read_recipe
>>> from rakedpapers.baths import Bath
>>> read_recipe(Bath(2, 2, "...."), "rake 1")
raises InvalidLine(row=0, word=2)
''',
]

CODEC = [
    '''
>>> from rakedpapers.codec import decode_bath, encode_bath
>>> from rakedpapers.baths import Bath
>>> values = encode_bath(Bath(2, 1, "a."))
>>> [values, decode_bath(values).cells]
[[103, 2, 1, 1, 0, 163], 'a.']
''',
    '''
>>> from rakedpapers.codec import decode_bath
>>> decode_bath([103, 6])
raises DecodeError(offset=1)
''',
]

SCRIPTS = [
    r'''
>>> from rakedpapers.baths import Bath
>>> from rakedpapers.scripts import run_script
>>> lines = ["drop 0 x", "show", "when 1 a", "paper 1", "end", "repeat 2", "rake 1", "end", "show"]
>>> table, output = run_script(Bath(2, 1, "ab"), "\n".join(lines))
>>> [output, table.papers_made, len(table.history)]
[['xa', 'a', 'x.'], ['a'], 4]
''',
    '''
>>> from rakedpapers.baths import Bath
>>> from rakedpapers.scripts import run_script
>>> run_script(Bath(2, 1, "ab"), "rake 1 1")
raises ExecutionFailed(row=0)
''',
]


def outcome(example):
    """Return what the last row of an example gives, as the document writes it, and what it writes."""
    *rows, last, wanted = example.strip().split("\n")
    names = {}
    for row in rows:
        exec(row[4:], names)
    try:
        return repr(eval(last[4:], names)), wanted
    except BathError as error:
        attributes = ", ".join(f"{name}={worth!r}" for name, worth in sorted(vars(error).items()))
        return f"raises {error.__class__.__name__}({attributes})", wanted


class Examples(unittest.TestCase):
    def check(self, examples):
        for example in examples:
            with self.subTest(example):
                found, wanted = outcome(example)
                self.assertEqual(found, wanted)

    def test_baths(self):
        self.check(BATHS)

    def test_origins(self):
        self.check(ORIGINS)

    def test_undoing(self):
        self.check(UNDOING)

    def test_fewest(self):
        self.check(FEWEST)

    def test_lasting(self):
        self.check(LASTING)

    def test_again(self):
        self.check(AGAIN)

    def test_carrying(self):
        self.check(CARRYING)

    def test_guesses(self):
        self.check(GUESSES)

    def test_tables(self):
        self.check(TABLES)

    def test_peeking(self):
        self.check(PEEKING)

    def test_notation(self):
        self.check(NOTATION)

    def test_codec(self):
        self.check(CODEC)

    def test_scripts(self):
        self.check(SCRIPTS)
