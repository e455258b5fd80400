"""Rows and words, as they stand in the texts of recipes and in scripts."""

from rakedpapers.checks import is_letter
from rakedpapers.undoing import DRAWS

DIGITS = "0123456789"
MOST_DIGITS = 2


def rows_in(text):
    """Return the list of the lists of words of all rows of a text; the empty text has no rows."""
    return [row.split(" ") for row in text.split("\n")] if text else []


def number_in(word):
    """Return the number that a word tells, None if it is not one of one or two digits without a needless zero."""
    if not 1 <= len(word) <= MOST_DIGITS or not all([digit in DIGITS for digit in word]):
        return None
    number = int(word)
    return number if str(number) == word else None


def stride_in(word):
    """Return the stride that a word tells, with "-" ahead if it is less than 0, None if it tells none."""
    if not word.startswith("-"):
        return number_in(word)
    number = number_in(word[1:])
    return None if number in (None, 0) else -number


def deed_in(words):
    """Return the deed that the words of a row tell, for whatever bath, None if they tell none."""
    if words[0] == "drop":
        if len(words) != 3 or number_in(words[1]) is None or not is_letter(words[2]):
            return None
        return ("drop", number_in(words[1]), words[2])
    if words[0] in DRAWS:
        numbers = [stride_in(word) for word in words[1:]]
    elif words[0] == "paper":
        numbers = [number_in(word) for word in words[1:]]
    else:
        return None
    return None if not numbers or None in numbers else (words[0], tuple(numbers))
