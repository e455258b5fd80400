"""What comes of a recipe that is done again and again."""

from rakedpapers.baths import Bath, done
from rakedpapers.checks import check_number, check_recipe

MOST_TIMES = 10 ** 18


def texts_and_begin(bath, recipe):
    """Return the list of the cells behind 0, 1, 2 and so on times, each once, and the index to which they return.

    There are but some dozens, as a cell takes the same sign, or what lay on the same cell, each time.
    """
    times = {}
    cells = bath.cells
    while cells not in times:
        times[cells] = len(times)
        cells = done(Bath(bath.width, bath.height, cells), recipe)[0].cells
    return list(times), times[cells]


def after_times(bath, recipe, count):
    """Return the bath behind a recipe that is done so many times."""
    check_recipe(bath.width, bath.height, recipe)
    check_number(count, MOST_TIMES)
    texts, begin = texts_and_begin(bath, recipe)
    if count >= len(texts):
        count = begin + (count - begin) % (len(texts) - begin)
    return Bath(bath.width, bath.height, texts[count])


def period(bath, recipe):
    """Return behind how many times the baths begin to return, and how many times lead back."""
    check_recipe(bath.width, bath.height, recipe)
    texts, begin = texts_and_begin(bath, recipe)
    return begin, len(texts) - begin
