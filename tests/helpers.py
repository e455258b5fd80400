"""What several tests share: sizes, wrong values, and a plain second way to do deeds."""

import itertools
import random

LETTERS = "abcdefghijklmnopqrstuvwxyz"

SIZES = [(width, height) for width in range(1, 6) for height in range(1, 6) if width * height <= 12]
SMALL_SIZES = [size for size in SIZES if size[0] * size[1] <= 6]
LARGE_SIZES = [size for size in SIZES if size[0] * size[1] > 6]

WRONG_SIZES = [
    (0, 1), (6, 1), (-1, 1), (1, 0), (1, 6), (1, -1), (5, 3), (3, 5), (4, 4), (5, 5), (True, 1), (1, True),
    (0, 0), (6, 6),
]

# Each of these is no text of signs for the cells of a bath of three columns and two rows.
WRONG_TEXTS = ["", "abcde", "abcdefg", "abcdeF", "abcde?", "abcde ", "abcde\n", "abcd1f", "abcde\u00e4", "abc-ef"]

WRONG_SIGNS = ["", "ab", "..", "A", " ", "?", "0", "\n", "a.", "\u00e4", "-"]

# Each of these is no deed for a bath of three columns and two rows.
WRONG_DEEDS = [
    (),
    # other first items
    ("",), ("drops", 0, "a"), ("Rake", (1, 0)), ("dropp",), (0,), (True, 0, "a"), (("drop",), 0, "a"),
    ("keep", (0,)), ("comb ", (0, 0, 0)), (1, (0, 1)),
    # too few and too many items
    ("drop",), ("drop", 0), ("drop", 0, "a", "a"), ("rake",), ("rake", (1, 0), (1, 0)), ("rake", 1, 0),
    ("comb",), ("comb", (1, 0, 0), 1), ("paper",), ("paper", (0,), (1,)), ("paper", (0,), "a"),
    # a drop's cell
    ("drop", -1, "a"), ("drop", 6, "a"), ("drop", True, "a"), ("drop", False, "a"), ("drop", "0", "a"),
    ("drop", (0,), "a"), ("drop", (), "a"), ("drop", "", "a"),
    # a drop's colour
    ("drop", 0, "."), ("drop", 0, ""), ("drop", 0, "ab"), ("drop", 0, "abc"), ("drop", 0, "A"), ("drop", 0, "?"),
    ("drop", 0, 1), ("drop", 0, True), ("drop", 0, ("a",)), ("drop", 0, "\u00e4"), ("drop", 0, "a\n"),
    ("drop", "a", 0),
    # strides
    ("rake", (10, 0)), ("rake", (0, -10)), ("rake", (1,)), ("rake", (1, 0, 0)), ("rake", ()), ("rake", 1),
    ("rake", "10"), ("rake", ("1", "0")), ("rake", (True, 0)), ("rake", (0, False)), ("rake", ((1,), 0)),
    ("rake", True), ("rake", (1, "")),
    ("comb", (0, 0, 10)), ("comb", (-10, 0, 0)), ("comb", (1, 0)), ("comb", (1, 0, 0, 0)), ("comb", ()),
    ("comb", 0), ("comb", "100"), ("comb", ("1", 0, 0)), ("comb", (0, True, 0)), ("comb", (0, 0, (0,))),
    # a paper's cells
    ("paper", ()), ("paper", (6,)), ("paper", (-1,)), ("paper", (-1, 0)), ("paper", (0, 6)), ("paper", (1, 0)),
    ("paper", (0, 0)), ("paper", (0, 2, 1)), ("paper", (0, 1, 1)), ("paper", (True,)), ("paper", (False, 1)),
    ("paper", (0, True)), ("paper", ("0",)), ("paper", 0), ("paper", "0"), ("paper", ((0,),)), ("paper", (0, "1")),
    ("paper", True), ("paper", ""),
    # no tuples
    5, True, "", "drop", "ra",
]

# Right and wrong recipes for a bath of three columns and two rows, with the index of the first wrong deed.
FINE = ("rake", (1, 0))
WRONG_RECIPES = [((deed,), 0) for deed in WRONG_DEEDS] + [
    ((FINE, FINE, ()), 2),
    ((FINE, ("drop", 6, "a"), ()), 1),
    ((FINE, ("paper", ()), FINE), 1),
    ((FINE,) * 13, 12),
    ((FINE,) * 12 + ((),), 12),
    ((FINE,) * 14, 12),
    ((FINE,) * 13 + ((),), 12),
    ((FINE,) * 11 + ((),), 11),
    ((FINE,) * 11 + ((), FINE, FINE), 11),
    (((),) + (FINE,) * 15, 0),
]


def slow_drop(grid, row, column, colour):
    """Put a drop on a list of rows by moving one sign after the other."""
    new = [list(line) for line in grid]
    for step_row, step_column in ((0, -1), (0, 1), (-1, 0), (1, 0)):
        at_row, at_column, pushed = row, column, grid[row][column]
        while True:
            at_row, at_column = at_row + step_row, at_column + step_column
            if not (0 <= at_row < len(grid) and 0 <= at_column < len(grid[0])):
                break
            new[at_row][at_column], pushed = pushed, grid[at_row][at_column]
    new[row][column] = colour
    return new


def drawn(line, stride):
    """Draw a line by a stride, one cell at a time."""
    line = list(line)
    for turn in range(abs(stride)):
        if stride > 0:
            line.insert(0, line.pop())
        else:
            line.append(line.pop(0))
    return line


def slow_done(width, height, cells, recipe):
    """Return the texts behind each deed, and the texts of the papers."""
    grid = [list(cells[row * width:(row + 1) * width]) for row in range(height)]
    texts, papers = [], []
    for word, *rest in recipe:
        if word == "drop":
            grid = slow_drop(grid, rest[0] // width, rest[0] % width, rest[1])
        elif word == "rake":
            grid = [drawn(line, stride) for line, stride in zip(grid, rest[0])]
        elif word == "comb":
            columns = [drawn(line, stride) for line, stride in zip(zip(*grid), rest[0])]
            grid = [list(line) for line in zip(*columns)]
        else:
            papers.append("".join(grid[cell // width][cell % width] for cell in rest[0]))
            for cell in rest[0]:
                grid[cell // width][cell % width] = "."
        texts.append("".join("".join(line) for line in grid))
    return texts, papers


def some_deed(chance, width, height):
    """Return any deed for such a bath."""
    word = chance.choice(("drop", "rake", "comb", "paper"))
    cells = range(width * height)
    if word == "drop":
        return (word, chance.choice(cells), chance.choice(LETTERS))
    if word == "paper":
        return (word, tuple(sorted(chance.sample(cells, chance.randint(1, len(cells))))))
    return (word, tuple(chance.randint(-9, 9) for line in range(height if word == "rake" else width)))


def some_recipes(width, height, many, most=12):
    """Return a list of recipes for such a bath, the same ones for each call."""
    chance = random.Random(width * 100 + height)
    return [
        tuple(some_deed(chance, width, height) for turn in range(chance.randint(0, most)))
        for recipe in range(many)
    ]


def some_cells(width, height, seed=0):
    """Return a text of signs for such a bath."""
    chance = random.Random(seed * 10000 + width * 100 + height)
    return "".join(chance.choice(LETTERS + "...") for cell in range(width * height))


def slow_behind(width, height, cells, recipe):
    """Return the text behind all deeds of a recipe."""
    return ([cells] + slow_done(width, height, cells, recipe)[0])[-1]


def all_least_draws(width, height):
    """Return all rakes and combs for such a bath, with the strides that it needs."""
    return [("rake", strides) for strides in itertools.product(range(width), repeat=height)] + [
        ("comb", strides) for strides in itertools.product(range(height), repeat=width)]


def some_draws(chance, width, height, most=12):
    """Return a recipe of rakes and combs alone."""
    draws = [some_deed(chance, width, height) for turn in range(3 * most)]
    return tuple(deed for deed in draws if deed[0] in ("rake", "comb"))[:chance.randint(0, most)]


# Each of these is no ascending tuple of at least one cell of a bath of three columns and two rows.
WRONG_PAPER_CELLS = [
    (), (6,), (-1,), (-1, 0), (0, 6), (1, 0), (0, 0), (0, 2, 1), (0, 1, 1), (True,), (False, 1), (0, True), (5, 4),
    (0, 1, 2, 3, 4, 5, 6),
]


def some_paper_cells(chance, cell_count):
    """Return any ascending tuple of at least one cell."""
    return tuple(sorted(chance.sample(range(cell_count), chance.randint(1, cell_count))))


def all_paper_cells(cell_count):
    """Return all ascending tuples of at least one cell, in tuple order."""
    cells = range(cell_count)
    return sorted(
        chosen for count in range(1, cell_count + 1) for chosen in itertools.combinations(cells, count))
