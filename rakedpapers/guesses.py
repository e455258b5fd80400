"""Orders of deeds and strides of rakes that are not known, and a rake that is done again and again."""

from rakedpapers.again import MOST_TIMES
from rakedpapers.baths import done
from rakedpapers.checks import (
    are_strides, check_cell, check_number, check_paper_cells, check_recipe, check_sign, check_sign_text, is_sign,
)
from rakedpapers.errors import InvalidDeed, InvalidText, TooMany
from rakedpapers.fewest import number_tuples
from rakedpapers.moves import raked_from
from rakedpapers.origins import UNKNOWN

MOST_ORDERED_DEEDS = 6
MOST_SEEN = 10 ** 15


def index_orders(count):
    """Return the list of all orders of so many indexes, in tuple order."""
    orders = [()]
    for turn in range(count):
        orders = [order + (index,) for order in orders for index in range(count) if index not in order]
    return orders


def in_order(recipe, order):
    """Return the deeds of a recipe in an order of their indexes."""
    return tuple([recipe[index] for index in order])


def orders_that_lead(bath, recipe, cells):
    """Return the list of all orders of a recipe's indexes that lead to such cells, in tuple order."""
    check_recipe(bath.width, bath.height, recipe)
    check_sign_text(cells, len(bath))
    if len(recipe) > MOST_ORDERED_DEEDS:
        raise TooMany(f"the recipe has more than {MOST_ORDERED_DEEDS} deeds")
    orders = index_orders(len(recipe))
    return [order for order in orders if done(bath, in_order(recipe, order))[0].cells == cells]


def orders_to(bath, recipe, cells):
    """Return how many different tuples of all deeds of a recipe lead to such cells."""
    orders = orders_that_lead(bath, recipe, cells)
    return len({in_order(recipe, order) for order in orders})


def first_order(bath, recipe, cells):
    """Return the first order of a recipe's indexes that leads to such cells, None if there is none."""
    orders = orders_that_lead(bath, recipe, cells)
    return orders[0] if orders else None


def check_guessed_text(text, length):
    """Raise InvalidText for what is no text of a sign, or the mark of what is not known, for each cell."""
    if not isinstance(text, str) or len(text) != length:
        raise InvalidText("no text, or not as long as there are cells")
    if not all([is_sign(mark) or mark == UNKNOWN for mark in text]):
        raise InvalidText("a mark is no sign, and does not stand for what is not known")


def becomes(bath, strides, cells, text):
    """Return whether a paper on some cells would become a text behind a rake."""
    places = raked_from(bath.width, bath.height, strides)
    return all([mark in (UNKNOWN, bath.cells[places[cell]]) for cell, mark in zip(cells, text)])


def rakes_that_do(bath, cells, text):
    """Return the list of the strides, in tuple order, of all rakes behind which a paper would become a text."""
    check_paper_cells(cells, len(bath))
    check_guessed_text(text, len(cells))
    rakes = number_tuples(bath.width, bath.height)
    return [strides for strides in rakes if becomes(bath, strides, cells, text)]


def rake_count(bath, cells, text):
    """Return how many rakes there are behind which a paper on some cells would become a text."""
    return len(rakes_that_do(bath, cells, text))


def first_rake(bath, cells, text):
    """Return the strides of the first rake that does so, None if there is none."""
    rakes = rakes_that_do(bath, cells, text)
    return rakes[0] if rakes else None


def sure_strides(bath, cells, text):
    """Return the strides that all rakes that do so share, None for others, None alone if there is no such rake."""
    rakes = rakes_that_do(bath, cells, text)
    if not rakes:
        return None
    return tuple([row[0] if row.count(row[0]) == len(row) else None for row in zip(*rakes)])


def times_in_turn(bath, strides, cell, sign):
    """Return the ascending list of the numbers of rakes, less than the width, behind which a sign lies on a cell."""
    if not are_strides(strides, bath.height):
        raise InvalidDeed("no strides of a rake for this bath")
    check_cell(cell, len(bath))
    check_sign(sign)
    row, column = divmod(cell, bath.width)
    signs = bath.cells[row * bath.width:(row + 1) * bath.width]
    return [turn for turn in range(bath.width) if signs[(column - turn * strides[row]) % bath.width] == sign]


def seen_times(bath, strides, cell, sign, count):
    """Return how often a sign lies on a cell behind less than so many rakes."""
    turns = times_in_turn(bath, strides, cell, sign)
    check_number(count, MOST_TIMES)
    # As many rakes as the row is long bring all back.
    rounds, rest = divmod(count, bath.width)
    return rounds * len(turns) + len([turn for turn in turns if turn < rest])


def nth_seen(bath, strides, cell, sign, number):
    """Return behind how many rakes a sign lies on a cell for the time with a number, None if it never does."""
    turns = times_in_turn(bath, strides, cell, sign)
    check_number(number, MOST_SEEN)
    if not turns:
        return None
    rounds, rest = divmod(number, len(turns))
    return rounds * bath.width + turns[rest]
