"""Which drops can have been the last ones, and what can have lain ahead of them."""

from rakedpapers.checks import NOTHING, check_cell, is_letter
from rakedpapers.errors import InvalidColours, NoDrop
from rakedpapers.origins import UNKNOWN, told


def text_ahead(bath, cell):
    """Return the text of the signs that must have lain ahead of a drop on a cell, "?" for those that it lost.

    None if the last deed cannot have been a drop there.
    """
    colour = bath.cells[cell]
    if colour == NOTHING:
        return None
    # A paper on all cells, laid behind the drop, would tell just what the bath itself tells.
    recipe = (("drop", cell, colour), ("paper", tuple(range(len(bath)))))
    return told(bath.width, bath.height, recipe, (bath.cells,))


def last_drops(bath):
    """Return the ascending tuple of the cells on which the last deed can have been a drop."""
    return tuple([cell for cell in range(len(bath)) if text_ahead(bath, cell) is not None])


def check_colours(colours):
    """Raise InvalidColours for what is no text of different letters, or one without any."""
    if len(colours) == 0 or not all([is_letter(colour) for colour in colours]):
        raise InvalidColours("no text of letters")
    if len(set(colours)) < len(colours):
        raise InvalidColours("a letter stands there twice")


def text_ahead_of_these(bath, cell, colours):
    """Return what text_ahead tells, None if it tells of other signs than the colours and nothing."""
    check_cell(cell, len(bath))
    check_colours(colours)
    text = text_ahead(bath, cell)
    if text is None:
        raise NoDrop("the last deed cannot have been a drop there")
    return text if all([sign in colours + NOTHING + UNKNOWN for sign in text]) else None


def ahead_count(bath, cell, colours):
    """Return how many baths of no other colours there can have been ahead of a drop on a cell."""
    text = text_ahead_of_these(bath, cell, colours)
    if text is None:
        return 0
    count = 1
    for turn in range(text.count(UNKNOWN)):
        count *= len(colours) + 1
    return count


def first_ahead(bath, cell, colours):
    """Return the cells of the first bath in tuple order that ahead_count counts, None if there is none."""
    text = text_ahead_of_these(bath, cell, colours)
    # Nothing can always have lain there, and its sign stands ahead of all letters.
    return None if text is None else text.replace(UNKNOWN, NOTHING)
