"""The examples of the interface's sections errors, baths and origins, each as it is written."""

import unittest

from rakedpapers.errors import BathError

BATHS = [
    '''
>>> from rakedpapers.baths import Bath, done
>>> bath = Bath(3, 2, "abcdef")
>>> told = [done(bath, (("drop", 1, "z"),))[0].cells, done(bath, (("rake", (1, 0)),))[0].cells]
>>> told.append(done(bath, (("comb", (1, 0, 0)),))[0].cells)
>>> marbled, papers = done(bath, (("paper", (0, 2)),))
>>> told + [marbled.cells, papers]
['bzbdbf', 'cabdef', 'dbcaef', '.b.def', ['ac']]
''',
    '''
>>> from rakedpapers.baths import Bath, ever, first_time, steps
>>> bath, recipe = Bath(3, 2, "abcdef"), (("rake", (1, 0)), ("paper", (0, 1)), ("drop", 5, "z"))
>>> told = [[one.cells for one in steps(bath, recipe)], first_time(bath, recipe, 4, "f")]
>>> told + [first_time(bath, recipe, 0, "q"), ever(bath, recipe, ".")]
[['cabdef', '..bdef', '..fefz'], 3, None, (0, 1)]
''',
    '''
>>> from rakedpapers.baths import Bath, done
>>> done(Bath(3, 2, "abcdef"), (("rake", (1,)),))
raises InvalidRecipe(index=0)
''',
]

ORIGINS = [
    '''
>>> from rakedpapers.origins import copies, lost, sources
>>> recipe = (("rake", (1, 0)), ("paper", (0, 1)), ("drop", 5, "z"))
>>> cells, papers = sources(3, 2, recipe)
>>> [cells[:3], cells[3:], papers, copies(3, 2, recipe), lost(3, 2, recipe)]
[(('paper', 1), ('paper', 1), ('cell', 5)), (('cell', 4), ('cell', 5), ('drop', 2)), [(('cell', 2), ('cell', 0))], {0: 1, 1: 0, 2: 1, 3: 0, 4: 1, 5: 2}, (1, 3)]
''',
    '''
>>> from rakedpapers.origins import alike, parting_bath, told
>>> one, other = (("rake", (1,)),), (("rake", (-1,)),)
>>> marks = [alike(2, 1, one, other), alike(3, 1, one, other), parting_bath(2, 1, one, ())]
>>> marks.append(told(3, 2, (("rake", (1, 0)), ("paper", (0, 1)), ("drop", 5, "z")), ("ac",)))
>>> marks + [told(3, 1, (("drop", 0, "z"), ("paper", (0,))), ("y",))]
[True, False, 'ab', 'c?a???', None]
''',
    '''
>>> from rakedpapers.origins import told
>>> told(3, 2, (("paper", (0, 1)),), ())
raises InvalidPapers(index=0)
''',
]


def outcome(example):
    """Return what the last row of an example gives, as the document writes it, and what it writes."""
    *rows, last, wanted = example.strip().split("\n")
    names = {}
    for row in rows:
        exec(row[4:], names)
    try:
        return repr(eval(last[4:], names)), wanted
    except BathError as error:
        attributes = ", ".join(f"{name}={worth!r}" for name, worth in sorted(vars(error).items()))
        return f"raises {error.__class__.__name__}({attributes})", wanted


class Examples(unittest.TestCase):
    def check(self, examples):
        for example in examples:
            with self.subTest(example):
                found, wanted = outcome(example)
                self.assertEqual(found, wanted)

    def test_baths(self):
        self.check(BATHS)

    def test_origins(self):
        self.check(ORIGINS)
