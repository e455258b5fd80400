"""All errors that the package raises."""


class BathError(ValueError):
    """The base class of all errors of the package."""


class InvalidBath(BathError):
    """A width, a height or cells that no bath has; the part tells which of them."""

    def __init__(self, part):
        super().__init__(f"no bath has such a {part}")
        self.part = part


class InvalidSize(BathError):
    """A width or a height that no bath has, or too many cells."""


class InvalidRecipe(BathError):
    """A recipe with an item that is no deed for the bath, or one deed too many, at the index."""

    def __init__(self, index):
        super().__init__(f"no deed for this bath, or one too many, at the index {index}")
        self.index = index


class UnknownCell(BathError):
    """A cell that the bath has not."""


class InvalidSign(BathError):
    """What is neither a letter nor the sign for nothing."""


class InvalidDeed(BathError):
    """What is no such deed for the bath."""


class InvalidCells(BathError):
    """What is not the cells of a bath, or of a paper."""


class InvalidNumber(BathError):
    """A number that is out of its range."""


class TooMany(BathError):
    """More cells, or deeds, than the function takes."""


class InvalidColours(BathError):
    """What is no text of different letters, or one without any."""


class NoDrop(BathError):
    """A cell on which the last deed cannot have been a drop."""


class InvalidPapers(BathError):
    """Papers that a recipe cannot have made; the index is that of the first wrong or missing one."""

    def __init__(self, index):
        super().__init__(f"no text for the paper with the index {index}, or no such paper")
        self.index = index


class UnlikeSizes(BathError):
    """Two baths that are not as large as one another."""


class InvalidText(BathError):
    """What is no text of signs, or not as long as asked."""


class InvalidName(BathError):
    """What is no name of one to eight letters."""


class UnknownKept(BathError):
    """A name under which nothing is kept."""


class InvalidOperation(BathError):
    """What is no operation of a table, at the index."""

    def __init__(self, index):
        super().__init__(f"no operation of a table at the index {index}")
        self.index = index


class Clash(BathError):
    """A sign that agrees with no bath at the beginning."""


class InvalidLine(BathError):
    """A word of a recipe's text that is wrong, superfluous or missing, in the row."""

    def __init__(self, row, word):
        super().__init__(f"in the row {row}, the word {word} is wrong, superfluous or missing")
        self.row = row
        self.word = word


class DecodeError(BathError):
    """An item of a code that is wrong, superfluous or missing, at the offset."""

    def __init__(self, offset):
        super().__init__(f"the item at the offset {offset} is wrong, superfluous or missing")
        self.offset = offset


class ScriptError(BathError):
    """A row that stands in no script, or that is missing."""

    def __init__(self, row):
        super().__init__(f"the row {row} is wrong, superfluous or missing")
        self.row = row


class ExecutionFailed(BathError):
    """A row of a script that cannot be executed."""

    def __init__(self, row):
        super().__init__(f"the row {row} cannot be executed")
        self.row = row


class TooLong(BathError):
    """A script of too many steps."""
