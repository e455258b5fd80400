"""Papers that are carried from one bath to another, and papers that would become a text."""

from rakedpapers.baths import Bath, texts_on_the_way
from rakedpapers.checks import NOTHING, check_paper_cells, check_recipe, check_sign_text, is_sign_text
from rakedpapers.errors import InvalidText, UnlikeSizes


def check_sizes(one, other):
    """Raise UnlikeSizes if two baths are not as large as one another."""
    if one.width != other.width or one.height != other.height:
        raise UnlikeSizes("one bath is larger than the other, or lies otherwise")


def carried(one, other, cells):
    """Return two baths behind a paper that is laid on cells of the one, and then on those of the other."""
    check_sizes(one, other)
    check_paper_cells(cells, len(one))
    left, got = list(one.cells), list(other.cells)
    for cell in cells:
        if left[cell] != NOTHING:
            got[cell] = left[cell]
        left[cell] = NOTHING
    return Bath(one.width, one.height, "".join(left)), Bath(one.width, one.height, "".join(got))


def least_carried(one, other, cells):
    """Return the shortest tuple of cells by which the other bath gets such cells, None if there is none."""
    check_sizes(one, other)
    check_sign_text(cells, len(one))
    changed = [cell for cell in range(len(one)) if other.cells[cell] != cells[cell]]
    if any([cells[cell] == NOTHING or one.cells[cell] != cells[cell] for cell in changed]):
        return None
    return tuple(changed)


def check_text(text):
    """Raise InvalidText for what is no text of at least one sign."""
    if text == "" or not is_sign_text(text, len(text)):
        raise InvalidText("no text of at least one sign")


def paper_count(bath, text):
    """Return on how many different tuples of cells a paper would become a text."""
    check_text(text)
    # The counts are those of the tuples of the cells so far that become the first 0, 1, 2 and so on signs.
    counts = [1] + [0] * len(text)
    for sign in bath.cells:
        counts = [1] + [
            count + (before if sign == wanted else 0)
            for wanted, before, count in zip(text, counts, counts[1:])
        ]
    return counts[-1]


def first_paper(bath, text):
    """Return the first tuple of cells in tuple order on which a paper would become a text, None if there is none."""
    check_text(text)
    found = []
    for cell, sign in enumerate(bath.cells):
        # The least cell for each sign leaves the most cells for those behind it.
        if len(found) < len(text) and sign == text[len(found)]:
            found.append(cell)
    return tuple(found) if len(found) == len(text) else None


def moments(bath, recipe, cells, text):
    """Return the ascending list of the numbers of deeds behind which a paper on some cells would become a text."""
    check_recipe(bath.width, bath.height, recipe)
    check_paper_cells(cells, len(bath))
    if not is_sign_text(text, len(cells)):
        raise InvalidText("no text of a sign for each of the cells")
    signs = list(text)
    texts = texts_on_the_way(bath, recipe)
    return [count for count, lying in enumerate(texts) if [lying[cell] for cell in cells] == signs]
