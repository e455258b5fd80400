"""Which draws, that is, rakes and combs, undo others, and how recipes are told shortly."""

from rakedpapers.checks import check_recipe, is_deed
from rakedpapers.errors import InvalidDeed

DRAWS = ("rake", "comb")


def is_draw(deed):
    """Return whether a deed is a rake or a comb."""
    return deed[0] in DRAWS


def least_draw(bath, word, strides):
    """Return the draw with the least strides from 0 on that does the same as these strides."""
    length = bath.width if word == "rake" else bath.height
    return (word, tuple([stride % length for stride in strides]))


def opposite(bath, deed):
    """Return the rake or the comb that undoes one."""
    if not is_deed(bath.width, bath.height, deed) or not is_draw(deed):
        raise InvalidDeed("no rake and no comb for this bath")
    word, strides = deed
    return least_draw(bath, word, [-stride for stride in strides])


def with_draw(bath, kept, draw):
    """Return the shortened list of some deeds, which are shortened already, and a draw behind them."""
    word, strides = draw
    if kept and kept[-1][0] == word:
        strides = [before + behind for before, behind in zip(kept[-1][1], strides)]
        kept = kept[:-1]
    joined = least_draw(bath, word, strides)
    return kept + [joined] if any(joined[1]) else kept


def shortened(bath, recipe):
    """Return the recipe with the least strides, without draws that follow their like or by which nothing moves."""
    check_recipe(bath.width, bath.height, recipe)
    kept = []
    for deed in recipe:
        # Where a draw is left out, the list ends with the one ahead of it, which the next one can join.
        kept = with_draw(bath, kept, deed) if is_draw(deed) else kept + [deed]
    return tuple(kept)


def undoing(bath, recipe):
    """Return the shortened recipe that undoes one, None if there is a drop or a paper in it."""
    check_recipe(bath.width, bath.height, recipe)
    if not all([is_draw(deed) for deed in recipe]):
        return None
    return shortened(bath, tuple([opposite(bath, deed) for deed in reversed(recipe)]))
