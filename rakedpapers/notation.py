"""Baths, recipes and sources as texts of rows."""

from rakedpapers.checks import MOST_DEEDS, MOST_STRIDE, is_cell, is_letter, is_number
from rakedpapers.errors import InvalidLine
from rakedpapers.origins import sources
from rakedpapers.words import deed_in, number_in, rows_in, stride_in

DEED_WORDS = ("drop", "rake", "comb", "paper")
SOURCE_MARKS = {"cell": "", "drop": "d", "paper": "p"}


def in_rows(items, width):
    """Return the list of the rows of so many items, a text or a list."""
    return [items[begin:begin + width] for begin in range(0, len(items), width)]


def drawing(bath):
    """Return the text of a row for each row of cells."""
    return "\n".join(in_rows(bath.cells, bath.width))


def source_map(width, height, recipe):
    """Return the text of a row for each row of cells, of a word for the source of each cell at the end."""
    cells = sources(width, height, recipe)[0]
    words = [f"{SOURCE_MARKS[word]}{number}" for word, number in cells]
    return "\n".join([" ".join(row) for row in in_rows(words, width)])


def deed_text(deed):
    """Return the row of a deed."""
    numbers = deed[1:] if deed[0] == "drop" else deed[1]
    return " ".join([deed[0]] + [str(number) for number in numbers])


def recipe_text(recipe):
    """Return the text of a row for each deed."""
    return "\n".join([deed_text(deed) for deed in recipe])


def least_word_count(bath, first_word):
    """Return how many words a row with such a first word has; only that of a paper may have more."""
    if first_word == "rake":
        return 1 + bath.height
    if first_word == "comb":
        return 1 + bath.width
    return 3 if first_word == "drop" else 2


def fits(bath, words, at):
    """Return whether a word can stand where it does for a bath, if all words ahead of it can."""
    word = words[at]
    if at == 0:
        return word in DEED_WORDS
    if words[0] == "paper":
        return is_cell(number_in(word), len(bath)) and (at == 1 or number_in(words[at - 1]) < number_in(word))
    if at >= least_word_count(bath, words[0]):
        return False
    if words[0] == "drop":
        return is_cell(number_in(word), len(bath)) if at == 1 else is_letter(word)
    return is_number(stride_in(word), -MOST_STRIDE, MOST_STRIDE)


def wrong_word(bath, words):
    """Return the number of the first word of a row that is wrong, superfluous or missing, None if all is right."""
    for at in range(len(words)):
        if not fits(bath, words, at):
            return at
    return len(words) if len(words) < least_word_count(bath, words[0]) else None


def read_recipe(bath, text):
    """Return the recipe that a text of rows tells for a bath."""
    recipe = []
    for row, words in enumerate(rows_in(text)):
        wrong = 0 if row >= MOST_DEEDS else wrong_word(bath, words)
        if wrong is not None:
            raise InvalidLine(row, wrong)
        recipe.append(deed_in(words))
    return tuple(recipe)
