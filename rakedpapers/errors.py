"""All errors that the package raises."""


class BathError(ValueError):
    """The base class of all errors of the package."""


class InvalidBath(BathError):
    """A width, a height or cells that no bath has; the part tells which of them."""

    def __init__(self, part):
        super().__init__(f"no bath has such a {part}")
        self.part = part


class InvalidSize(BathError):
    """A width or a height that no bath has, or too many cells."""


class InvalidRecipe(BathError):
    """A recipe with an item that is no deed for the bath, or one deed too many, at the index."""

    def __init__(self, index):
        super().__init__(f"no deed for this bath, or one too many, at the index {index}")
        self.index = index


class UnknownCell(BathError):
    """A cell that the bath has not."""


class InvalidSign(BathError):
    """What is neither a letter nor the sign for nothing."""


class InvalidDeed(BathError):
    """What is no such deed for the bath."""


class InvalidCells(BathError):
    """What is not the cells of a bath, or of a paper."""


class InvalidNumber(BathError):
    """A number that is out of its range."""


class TooMany(BathError):
    """More cells, or deeds, than the function takes."""


class InvalidColours(BathError):
    """What is no text of different letters, or one without any."""


class NoDrop(BathError):
    """A cell on which the last deed cannot have been a drop."""


class InvalidPapers(BathError):
    """Papers that a recipe cannot have made; the index is that of the first wrong or missing one."""

    def __init__(self, index):
        super().__init__(f"no text for the paper with the index {index}, or no such paper")
        self.index = index
