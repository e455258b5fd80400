"""Tables: baths that are worked on, step by step, there and back."""

from rakedpapers.baths import Bath, done
from rakedpapers.checks import LETTERS, is_deed, is_letter
from rakedpapers.errors import InvalidDeed, InvalidName, InvalidOperation, UnknownKept

LONGEST_NAME = 8

# How many arguments the operations take that apply_all executes.
ARGUMENT_COUNTS = {
    "drop": 2, "rake": 1, "comb": 1, "paper": 1, "keep_as": 1, "fetch": 1, "undo": 0, "redo": 0,
}


class Moment:
    """What there is on a table behind an operation. It is never changed, so that a table can return to it."""

    def __init__(self, operation, bath, papers, kept):
        self.operation = operation
        self.bath = bath
        self.papers = papers
        self.kept = kept


def is_name(value):
    """Return whether a value is a name under which something can be kept."""
    if not isinstance(value, str) or not 1 <= len(value) <= LONGEST_NAME:
        return False
    return all([is_letter(letter) for letter in value])


def deed_done(moment, deed):
    """Return the moment behind a deed, and what it returns."""
    bath = moment.bath
    if not is_deed(bath.width, bath.height, deed):
        raise InvalidDeed("no deed for this bath")
    marbled, texts = done(bath, (deed,))
    behind = Moment(deed, marbled, moment.papers + tuple(texts), moment.kept)
    if texts:
        return behind, texts[0]
    return behind, len([sign for before, sign in zip(bath.cells, marbled.cells) if sign != before])


def name_kept(moment, name):
    """Return the moment behind a keeping under a name, and whether something was kept under it before."""
    if not is_name(name):
        raise InvalidName("no name of one to eight letters")
    kept = dict(moment.kept)
    kept[name] = moment
    return Moment(("keep_as", name), moment.bath, moment.papers, kept), name in moment.kept


def name_fetched(moment, name):
    """Return the moment behind the return to what is kept under a name, and the cells of the bath then."""
    if name not in moment.kept:
        raise UnknownKept("nothing is kept under this name")
    kept = moment.kept[name]
    return Moment(("fetch", name), kept.bath, kept.papers, moment.kept), kept.bath.cells


def operation_done(moment, operation):
    """Return the moment behind an operation, and what it returns."""
    if operation[0] == "keep_as":
        return name_kept(moment, operation[1])
    if operation[0] == "fetch":
        return name_fetched(moment, operation[1])
    return deed_done(moment, operation)


def is_operation(value):
    """Return whether a value is a tuple of the name of an operation and as many arguments as it takes."""
    if not isinstance(value, tuple) or len(value) == 0 or not isinstance(value[0], str):
        return False
    return value[0] in ARGUMENT_COUNTS and len(value) == 1 + ARGUMENT_COUNTS[value[0]]


def check_operations(operations):
    """Raise InvalidOperation for the first of some values that is no operation."""
    for index, operation in enumerate(operations):
        if not is_operation(operation):
            raise InvalidOperation(index)


class Table:
    """A bath that is worked on."""

    def __init__(self, bath):
        beginning = Moment(None, Bath(bath.width, bath.height, bath.cells), (), {})
        # Tuples are never changed, so that a trial can return to them.
        self.past = (beginning,)
        self.ahead = ()

    @property
    def bath_now(self):
        """The bath as it is now."""
        return self.past[-1].bath

    @property
    def papers_made(self):
        """The list of the texts of all papers."""
        return list(self.past[-1].papers)

    @property
    def colours_now(self):
        """The ascending text of all letters that lie on the bath."""
        return "".join([letter for letter in LETTERS if letter in self.past[-1].bath.cells])

    @property
    def kept_under(self):
        """The ascending list of all names under which something is kept."""
        return sorted(list(self.past[-1].kept))

    @property
    def history(self):
        """The list of all operations in effect."""
        return [moment.operation for moment in self.past[1:]]

    def drop(self, cell, colour):
        """Do a drop, and return how many cells have another sign then."""
        return self.execute(("drop", cell, colour))

    def rake(self, strides):
        """Do a rake, and return how many cells have another sign then."""
        return self.execute(("rake", strides))

    def comb(self, strides):
        """Do a comb, and return how many cells have another sign then."""
        return self.execute(("comb", strides))

    def paper(self, cells):
        """Lay a paper on cells, and return the text that it becomes."""
        return self.execute(("paper", cells))

    def keep_as(self, name):
        """Keep all that there is under a name, and return whether something was kept under it before."""
        return self.execute(("keep_as", name))

    def fetch(self, name):
        """Return to what was kept under a name last, and return the cells of the bath then."""
        return self.execute(("fetch", name))

    def undo(self):
        """Undo the last operation in effect, and return whether there was one."""
        if len(self.past) == 1:
            return False
        self.ahead = self.past[-1:] + self.ahead
        self.past = self.past[:-1]
        return True

    def redo(self):
        """Execute the operation that was undone last once more, and return whether there was one."""
        if len(self.ahead) == 0:
            return False
        self.past = self.past + self.ahead[:1]
        self.ahead = self.ahead[1:]
        return True

    def execute(self, operation):
        """Execute an operation, a tuple as in the history, or an undo or a redo, and return its result."""
        if operation[0] == "undo":
            return self.undo()
        if operation[0] == "redo":
            return self.redo()
        behind, result = operation_done(self.past[-1], operation)
        self.past = self.past + (behind,)
        self.ahead = ()
        return result

    def apply_all(self, operations):
        """Execute a list of operations, and return the list of their results; change nothing if one fails."""
        check_operations(operations)
        with Trial(self) as trial:
            results = [self.execute(operation) for operation in operations]
            trial.hold()
        return results

    def tried_out(self, operations, keep):
        """Execute a list of operations, return the list of their results, and keep what they change if told so."""
        with Trial(self) as trial:
            results = self.apply_all(operations)
            if keep is True:
                trial.hold()
        return results

    @classmethod
    def replay(cls, bath, operations):
        """Return a table behind a list of operations."""
        table = cls(bath)
        table.apply_all(operations)
        return table


class Trial:
    """A block of work on a table, behind which it is as it was ahead of it, unless it is held."""

    def __init__(self, table):
        self.table = table
        self.past_before = None
        self.ahead_before = None

    def __enter__(self):
        self.past_before = self.table.past
        self.ahead_before = self.table.ahead
        return self

    def hold(self):
        """Let the table be as it is at the end of the block."""
        self.past_before = None

    def __exit__(self, kind, value, trace):
        if self.past_before is None:
            return
        self.table.past = self.past_before
        self.table.ahead = self.ahead_before
