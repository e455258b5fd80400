"""What deeds do to whatever lies on the cells: signs, or marks of where signs come from."""

from rakedpapers.checks import NOTHING


def pushed_from(width, height, drop_cell):
    """Return the list that moved_from tells of, for a drop."""
    drop_row, drop_column = divmod(drop_cell, width)
    found = []
    for cell in range(width * height):
        row, column = divmod(cell, width)
        if cell == drop_cell:
            found.append(None)
        elif row == drop_row:
            found.append(cell + 1 if column < drop_column else cell - 1)
        elif column == drop_column:
            found.append(cell + width if row < drop_row else cell - width)
        else:
            found.append(cell)
    return found


def raked_from(width, height, strides):
    """Return the list that moved_from tells of, for a rake."""
    return [row * width + (column - strides[row]) % width for row in range(height) for column in range(width)]


def combed_from(width, height, strides):
    """Return the list that moved_from tells of, for a comb."""
    return [(row - strides[column]) % height * width + column for row in range(height) for column in range(width)]


def moved_from(width, height, deed):
    """Return the list of the cells from which a deed moves things to each cell, None where it puts a new one."""
    word = deed[0]
    if word == "drop":
        return pushed_from(width, height, deed[1])
    if word == "rake":
        return raked_from(width, height, deed[1])
    if word == "comb":
        return combed_from(width, height, deed[1])
    return [None if cell in deed[1] else cell for cell in range(width * height)]


def things_after(width, height, things, deed, new):
    """Return the list of what lies on the cells behind a deed that puts a new thing."""
    return [new if cell is None else things[cell] for cell in moved_from(width, height, deed)]


def new_sign(deed):
    """Return the sign that a drop or a paper puts on its cells."""
    return deed[2] if deed[0] == "drop" else NOTHING


def new_signs(recipe):
    """Return the list of the signs that the deeds of a recipe put."""
    return [new_sign(deed) for deed in recipe]


def things_done(width, height, things, recipe, news):
    """Return what lies on the cells behind a recipe, and the list of the tuples that its papers took.

    The news are what each deed puts; those of rakes and combs come nowhere.
    """
    papers = []
    for deed, new in zip(recipe, news):
        if deed[0] == "paper":
            papers.append(tuple([things[cell] for cell in deed[1]]))
        things = things_after(width, height, things, deed, new)
    return things, papers
