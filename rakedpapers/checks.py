"""What counts as a number, a sign, a cell, a size, a deed and a recipe."""

from rakedpapers.errors import (
    InvalidCells, InvalidNumber, InvalidRecipe, InvalidSign, InvalidSize, TooMany, UnknownCell,
)

LETTERS = "abcdefghijklmnopqrstuvwxyz"
NOTHING = "."
MOST_SIDE = 5
MOST_CELLS = 12
MOST_STRIDE = 9
MOST_DEEDS = 12


def is_number(value, least, most):
    """Return whether a value is an integer within two bounds."""
    # Python takes True and False for integers, the document does not.
    return isinstance(value, int) and not isinstance(value, bool) and least <= value <= most


def is_letter(value):
    """Return whether a value is a colour."""
    # A text of several letters, or of none, may be within LETTERS, too.
    return isinstance(value, str) and len(value) == 1 and value in LETTERS


def is_sign(value):
    """Return whether a value is a colour, or the sign for nothing."""
    return is_letter(value) or value == NOTHING


def is_sign_text(value, length):
    """Return whether a value is a text of so many signs."""
    return isinstance(value, str) and len(value) == length and all([is_sign(sign) for sign in value])


def is_cell(value, cell_count):
    """Return whether a value is one of so many cells."""
    return is_number(value, 0, cell_count - 1)


def wrong_side(width, height):
    """Return which side of a bath is wrong, "width" or "height", None if both are right."""
    if not is_number(width, 1, MOST_SIDE):
        return "width"
    if not is_number(height, 1, MOST_SIDE) or width * height > MOST_CELLS:
        return "height"
    return None


def are_strides(value, count):
    """Return whether a value is a tuple of so many strides."""
    if not isinstance(value, tuple) or len(value) != count:
        return False
    return all([is_number(stride, -MOST_STRIDE, MOST_STRIDE) for stride in value])


def are_paper_cells(value, cell_count):
    """Return whether a value is an ascending tuple of at least one of so many cells."""
    if not isinstance(value, tuple) or len(value) == 0:
        return False
    if not all([is_cell(cell, cell_count) for cell in value]):
        return False
    return all([before < cell for before, cell in zip(value, value[1:])])


def is_deed(width, height, deed):
    """Return whether a value is a deed for a bath of such a size."""
    if not isinstance(deed, tuple):
        return False
    if len(deed) == 3 and deed[0] == "drop":
        return is_cell(deed[1], width * height) and is_letter(deed[2])
    if len(deed) != 2:
        return False
    word, places = deed
    if word == "rake":
        return are_strides(places, height)
    if word == "comb":
        return are_strides(places, width)
    return word == "paper" and are_paper_cells(places, width * height)


def check_size(width, height):
    """Raise InvalidSize for what is not the size of a bath."""
    if wrong_side(width, height) is not None:
        raise InvalidSize("no bath has such a size")


def check_recipe(width, height, recipe):
    """Raise InvalidRecipe for what is no recipe for a bath of such a size."""
    for index, deed in enumerate(recipe):
        if index >= MOST_DEEDS or not is_deed(width, height, deed):
            raise InvalidRecipe(index)


def check_cell(cell, cell_count):
    """Raise UnknownCell for what is none of so many cells."""
    if not is_cell(cell, cell_count):
        raise UnknownCell("the bath has no such cell")


def check_sign(sign):
    """Raise InvalidSign for what is neither a colour nor the sign for nothing."""
    if not is_sign(sign):
        raise InvalidSign("no colour, and not the sign for nothing")


def check_sign_text(cells, cell_count):
    """Raise InvalidCells for what is no text of a sign for each of so many cells."""
    if not is_sign_text(cells, cell_count):
        raise InvalidCells("no text of signs for all cells")


def check_paper_cells(cells, cell_count):
    """Raise InvalidCells for what is no ascending tuple of at least one of so many cells."""
    if not are_paper_cells(cells, cell_count):
        raise InvalidCells("no ascending tuple of cells")


def check_number(number, most):
    """Raise InvalidNumber for what is no number from 0 to the most."""
    if not is_number(number, 0, most):
        raise InvalidNumber(f"no number from 0 to {most}")


def check_cell_count(cell_count, most):
    """Raise TooMany for more cells than the most."""
    if cell_count > most:
        raise TooMany(f"the bath has more than {most} cells")
