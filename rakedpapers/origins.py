"""Where the colours of a bath and of papers come from, and what papers tell of the beginning."""

from rakedpapers.baths import Bath, done
from rakedpapers.checks import check_cell_count, check_recipe, check_size, is_sign_text
from rakedpapers.errors import InvalidPapers
from rakedpapers.moves import new_signs, things_done

UNKNOWN = "?"
MOST_PARTING_CELLS = 8


def sources(width, height, recipe):
    """Return the tuple of the sources of all cells at the end, and the list of those of each paper."""
    check_size(width, height)
    check_recipe(width, height, recipe)
    beginning = [("cell", cell) for cell in range(width * height)]
    news = [(deed[0], index) for index, deed in enumerate(recipe)]
    cells, papers = things_done(width, height, beginning, recipe, news)
    return tuple(cells), papers


def copies(width, height, recipe):
    """Return a dict from each cell to how often what lay there is on the bath at the end and on the papers."""
    cells, papers = sources(width, height, recipe)
    counts = {cell: 0 for cell in range(width * height)}
    for found in [cells] + papers:
        for word, number in found:
            if word == "cell":
                counts[number] += 1
    return counts


def lost(width, height, recipe):
    """Return the ascending tuple of the cells of which nothing is left."""
    counts = copies(width, height, recipe)
    return tuple([cell for cell in counts if counts[cell] == 0])


def outcome(width, height, recipe):
    """Return what becomes of every bath: the list of its cells, and that of the tuples for its papers.

    A number stands for what lay on that cell at the beginning, a text for that very sign.
    """
    return things_done(width, height, list(range(width * height)), recipe, new_signs(recipe))


def check_two(width, height, one, other):
    """Raise InvalidSize or InvalidRecipe if two recipes are not for a bath of such a size."""
    check_size(width, height)
    check_recipe(width, height, one)
    check_recipe(width, height, other)


def alike(width, height, one, other):
    """Return whether two recipes tell the same for every bath."""
    check_two(width, height, one, other)
    # A cell can hold more than one sign, so different outcomes differ on some bath.
    return outcome(width, height, one) == outcome(width, height, other)


def texts_of_a_and_b(length):
    """Return the list of all texts of so many letters a and b, in tuple order."""
    texts = [""]
    for turn in range(length):
        texts = [text + letter for text in texts for letter in "ab"]
    return texts


def parting_bath(width, height, one, other):
    """Return the first text of letters a and b with which a bath parts two recipes, None if they are alike."""
    check_two(width, height, one, other)
    check_cell_count(width * height, MOST_PARTING_CELLS)
    for text in texts_of_a_and_b(width * height):
        bath = Bath(width, height, text)
        if done(bath, one) != done(bath, other):
            return text
    return None


def told(width, height, recipe, papers):
    """Return the text of what papers tell of the bath at the beginning, None if there can be no such bath."""
    check_size(width, height)
    check_recipe(width, height, recipe)
    taken = outcome(width, height, recipe)[1]
    check_papers(taken, papers)
    signs = [UNKNOWN] * (width * height)
    for origins, text in zip(taken, papers):
        for origin, sign in zip(origins, text):
            if not agrees(signs, origin, sign):
                return None
            if isinstance(origin, int):
                signs[origin] = sign
    return "".join(signs)


def check_papers(taken, papers):
    """Raise InvalidPapers if texts cannot be those of the papers that a recipe took."""
    for index, text in enumerate(papers):
        if index >= len(taken) or not is_sign_text(text, len(taken[index])):
            raise InvalidPapers(index)
    if len(papers) < len(taken):
        raise InvalidPapers(len(papers))


def agrees(signs, origin, sign):
    """Return whether a sign can come from a cell, or be another sign, if so much is known of the cells."""
    if isinstance(origin, int):
        return signs[origin] in (UNKNOWN, sign)
    return origin == sign
