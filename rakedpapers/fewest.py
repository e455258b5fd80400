"""By how few rakes and combs, or by how few drops, a bath becomes another one."""

from rakedpapers.baths import Bath
from rakedpapers.checks import LETTERS, NOTHING, check_cell_count, check_number, check_sign_text
from rakedpapers.moves import moved_from
from rakedpapers.origins import sources

MOST_CHANGED_CELLS = 6
MOST_DROPS = 3


def number_tuples(limit, length):
    """Return the list of all tuples of so many numbers from 0 to one less than the limit, in tuple order."""
    tuples = [()]
    for turn in range(length):
        tuples = [numbers + (number,) for numbers in tuples for number in range(limit)]
    return tuples


def all_draws(width, height):
    """Return the list of rakes and combs that do all that rakes and combs can do."""
    rakes = [("rake", strides) for strides in number_tuples(width, height)]
    combs = [("comb", strides) for strides in number_tuples(height, width)]
    return rakes + combs


def draw_numbers(bath):
    """Return a dict from the cells of all baths that draws can make of one to the least number of draws."""
    draws = [moved_from(bath.width, bath.height, draw) for draw in all_draws(bath.width, bath.height)]
    numbers = {bath.cells: 0}
    latest = [bath.cells]
    while latest:
        made = ["".join([cells[place] for place in places]) for cells in latest for places in draws]
        number = numbers[latest[0]] + 1
        latest = []
        for text in made:
            if text not in numbers:
                numbers[text] = number
                latest.append(text)
    return numbers


def draw_count(bath):
    """Return how many different baths rakes and combs can make of one."""
    check_cell_count(len(bath), MOST_CHANGED_CELLS)
    return len(draw_numbers(bath))


def can_become(bath, cells):
    """Return whether rakes and combs can make a bath with such cells."""
    return fewest_draws(bath, cells) is not None


def fewest_draws(bath, cells):
    """Return the least number of rakes and combs that make a bath with such cells, None if none do."""
    check_sign_text(cells, len(bath))
    check_cell_count(len(bath), MOST_CHANGED_CELLS)
    return draw_numbers(bath).get(cells)


def letters_that_do(bath, places, cells):
    """Return a list of a text for each drop on a place, of the letters by which they make such cells.

    Any choice of a letter for each drop makes them. None if no letters do.
    """
    letters = [LETTERS] * len(places)
    found = sources(bath.width, bath.height, tuple([("drop", place, LETTERS[0]) for place in places]))[0]
    for (word, number), sign in zip(found, cells):
        signs = bath.cells[number] if word == "cell" else letters[number]
        if sign not in signs:
            return None
        if word == "drop":
            letters[number] = sign
    return letters


def ways_to_drop(bath, cells, count):
    """Return the list of all ways in which so many drops make such cells.

    Each is a tuple of a pair for each drop: its cell, and the text of its letters that do.
    """
    ways = []
    for places in number_tuples(len(bath), count):
        letters = letters_that_do(bath, places, cells)
        if letters is not None:
            ways.append(tuple(zip(places, letters)))
    return ways


def fewest_drops(bath, cells, most):
    """Return the least number of drops, at most so many, that make such cells, None if these are not enough."""
    drops = first_drops(bath, cells, most)
    return None if drops is None else len(drops)


def first_drops(bath, cells, most):
    """Return the first tuple of drops in tuple order, of the least number that makes such cells, None if none do."""
    check_sign_text(cells, len(bath))
    check_number(most, MOST_DROPS)
    check_cell_count(len(bath), MOST_CHANGED_CELLS)
    for count in range(most + 1):
        ways = ways_to_drop(bath, cells, count)
        if ways:
            # The first way may begin with a later letter than another one: tuple order asks for it ahead of the
            # next cell.
            return min([tuple([(place, letters[0]) for place, letters in way]) for way in ways])
    return None


def choice_count(way):
    """Return in how many ways a letter can be chosen for each drop."""
    count = 1
    for place, letters in way:
        count *= len(letters)
    return count


def recipes_of_drops(bath, count):
    """Return how many tuples of so many drops make a bath out of one on which nothing lies."""
    check_number(count, MOST_DROPS)
    check_cell_count(len(bath), MOST_CHANGED_CELLS)
    still = Bath(bath.width, bath.height, NOTHING * len(bath))
    return sum([choice_count(way) for way in ways_to_drop(still, bath.cells, count)])
