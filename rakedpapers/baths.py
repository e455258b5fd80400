"""Baths, and what becomes of them by the deeds of a recipe."""

from rakedpapers.checks import check_cell, check_recipe, check_sign, is_sign_text, wrong_side
from rakedpapers.errors import InvalidBath
from rakedpapers.moves import new_sign, new_signs, things_after, things_done


class Bath:
    """A tray of cells, with a colour or nothing on each of them."""

    def __init__(self, width, height, cells):
        part = wrong_side(width, height)
        if part is not None:
            raise InvalidBath(part)
        if not is_sign_text(cells, width * height):
            raise InvalidBath("cells")
        self.column_count = width
        self.row_count = height
        self.signs = cells

    @property
    def width(self):
        """The number of cells in a row."""
        return self.column_count

    @property
    def height(self):
        """The number of rows."""
        return self.row_count

    @property
    def cells(self):
        """The text of the signs on all cells."""
        return self.signs

    def __len__(self):
        return len(self.signs)

    def __eq__(self, other):
        return (
            isinstance(other, Bath)
            and self.column_count == other.column_count
            and self.row_count == other.row_count
            and self.signs == other.signs
        )


def done(bath, recipe):
    """Return the bath behind a recipe, and the list of the texts that its papers became."""
    check_recipe(bath.width, bath.height, recipe)
    signs, papers = things_done(bath.width, bath.height, list(bath.cells), recipe, new_signs(recipe))
    return Bath(bath.width, bath.height, "".join(signs)), ["".join(paper) for paper in papers]


def steps(bath, recipe):
    """Yield the bath behind each deed of a recipe."""
    check_recipe(bath.width, bath.height, recipe)
    signs = list(bath.cells)
    for deed in recipe:
        signs = things_after(bath.width, bath.height, signs, deed, new_sign(deed))
        yield Bath(bath.width, bath.height, "".join(signs))


def texts_on_the_way(bath, recipe):
    """Return the list of the cells of a bath at the beginning, and behind each deed of a recipe."""
    return [bath.cells] + [step.cells for step in steps(bath, recipe)]


def first_time(bath, recipe, cell, sign):
    """Return the least number of deeds behind which a sign lies on a cell, None if there is none."""
    check_recipe(bath.width, bath.height, recipe)
    check_cell(cell, len(bath))
    check_sign(sign)
    for deed_count, cells in enumerate(texts_on_the_way(bath, recipe)):
        if cells[cell] == sign:
            return deed_count
    return None


def ever(bath, recipe, sign):
    """Return the ascending tuple of the cells on which a sign lies at any time."""
    check_recipe(bath.width, bath.height, recipe)
    check_sign(sign)
    texts = texts_on_the_way(bath, recipe)
    return tuple([cell for cell in range(len(bath)) if any([text[cell] == sign for text in texts])])
