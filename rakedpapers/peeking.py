"""Somebody who sees single cells, and concludes from them what lay there at the beginning."""

from rakedpapers.checks import check_cell, check_recipe, check_sign, check_size
from rakedpapers.errors import Clash
from rakedpapers.origins import UNKNOWN, agrees, outcome


class Peeker:
    """Somebody who knows what was done, but not what lay on the bath at the beginning."""

    def __init__(self, width, height, recipe):
        check_size(width, height)
        check_recipe(width, height, recipe)
        self.origins = outcome(width, height, recipe)[0]
        self.known_signs = [UNKNOWN] * (width * height)
        self.accepted = []

    @property
    def known(self):
        """The text of all signs at the beginning, "?" for what is not known."""
        return "".join(self.known_signs)

    @property
    def told_so_far(self):
        """The list of the cells and signs of all accepted calls."""
        return list(self.accepted)

    def seen(self, cell, sign):
        """Tell which sign lies on a cell at the end, and return of how many cells the first sign is known then."""
        check_cell(cell, len(self.origins))
        check_sign(sign)
        origin = self.origins[cell]
        if not agrees(self.known_signs, origin, sign):
            raise Clash("no bath at the beginning agrees with this")
        if isinstance(origin, int):
            self.known_signs[origin] = sign
        self.accepted.append((cell, sign))
        return len(self.known_signs) - self.known_signs.count(UNKNOWN)

    def sure_cells(self):
        """Return the text of the signs that surely lie on the cells at the end, "?" for all others."""
        return "".join([
            self.known_signs[origin] if isinstance(origin, int) else origin for origin in self.origins
        ])

    def useful(self):
        """Return the ascending tuple of the cells whose signs would make another sign at the beginning known."""
        return tuple([cell for cell, sign in enumerate(self.sure_cells()) if sign == UNKNOWN])

    def fewest_looks(self):
        """Return the least number of cells that have to be seen until none is useful any more."""
        # Each of the cells to which one sign came tells the same.
        return len({self.origins[cell] for cell in self.useful()})
