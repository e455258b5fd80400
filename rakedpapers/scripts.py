"""Scripts, which are executed on a table."""

from rakedpapers.checks import is_cell, is_sign
from rakedpapers.errors import ExecutionFailed, InvalidDeed, ScriptError, TooLong
from rakedpapers.tables import Table
from rakedpapers.words import deed_in, number_in, rows_in

MOST_ROWS = 60
MOST_DEPTH = 4
MOST_STEPS = 300
BLOCKS = ("repeat", "when")


def row_in(words):
    """Return the tuple of a row's first word and what the others tell, None if it is no row of a script."""
    if words[0] in ("show", "end"):
        return (words[0],) if len(words) == 1 else None
    if words[0] == "repeat":
        if len(words) != 2 or number_in(words[1]) is None:
            return None
        return ("repeat", number_in(words[1]))
    if words[0] == "when":
        if len(words) != 3 or number_in(words[1]) is None or not is_sign(words[2]):
            return None
        return ("when", number_in(words[1]), words[2])
    return deed_in(words)


def read_script(text):
    """Return the list of the rows of a script, and a dict from the first rows of blocks to their last ones."""
    rows, ends, open_blocks = [], {}, []
    for number, words in enumerate(rows_in(text)):
        row = row_in(words)
        if row is None or number >= MOST_ROWS:
            raise ScriptError(number)
        if row[0] in BLOCKS:
            open_blocks.append(number)
            if len(open_blocks) > MOST_DEPTH:
                raise ScriptError(number)
        if row[0] == "end":
            if not open_blocks:
                raise ScriptError(number)
            ends[open_blocks.pop()] = number
        rows.append(row)
    if open_blocks:
        raise ScriptError(len(rows))
    return rows, ends


class Run:
    """One execution of a script."""

    def __init__(self, bath, rows, ends):
        self.table = Table(bath)
        self.output = []
        self.rows = rows
        self.ends = ends
        self.step_count = 0

    def count_step(self):
        """Count one more step, or raise TooLong ahead of it."""
        if self.step_count == MOST_STEPS:
            raise TooLong(f"the script takes more than {MOST_STEPS} steps")
        self.step_count += 1

    def run_rows(self, first, behind):
        """Execute the rows from one on that stand ahead of another one."""
        number = first
        while number < behind:
            self.count_step()
            self.run_row(number)
            # A block is executed as a whole by its first row.
            number = self.ends.get(number, number) + 1

    def run_row(self, number):
        """Execute a row, and with the first one of a block all of it."""
        row = self.rows[number]
        if row[0] == "show":
            self.output.append(self.table.bath_now.cells)
        elif row[0] == "repeat":
            for turn in range(row[1]):
                self.count_step()
                self.run_rows(number + 1, self.ends[number])
        elif row[0] == "when":
            if self.lies_there(number):
                self.run_rows(number + 1, self.ends[number])
        else:
            self.run_deed(number)

    def lies_there(self, number):
        """Return whether the sign that a row asks for lies on its cell."""
        word, cell, sign = self.rows[number]
        cells = self.table.bath_now.cells
        if not is_cell(cell, len(cells)):
            raise ExecutionFailed(number)
        return cells[cell] == sign

    def run_deed(self, number):
        """Execute the deed of a row."""
        deed = self.rows[number]
        try:
            result = self.table.execute(deed)
        except InvalidDeed:
            raise ExecutionFailed(number) from None
        if deed[0] == "paper":
            self.output.append(result)


def run_script(bath, text):
    """Return the table behind a script, and the list of the lines that it writes."""
    rows, ends = read_script(text)
    run = Run(bath, rows, ends)
    run.run_rows(0, len(rows))
    return run.table, run.output
