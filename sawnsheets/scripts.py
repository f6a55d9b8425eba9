"""Scripts, whose rows are executed on a bench."""

from sawnsheets.benches import Bench
from sawnsheets.checks import DIGITS, is_sheet
from sawnsheets.errors import ExecutionFailed, ScriptError, SheetError, TooLong
from sawnsheets.packets import check_cell, check_sheet

MOST_ROWS = 60
DEEPEST_BLOCK = 4
MOST_STEPS = 300
LONGEST_NUMBER = 2


def is_number_word(word):
    """Tell whether a word is a number of one or two digits without needless zeros."""
    if not 1 <= len(word) <= LONGEST_NUMBER or not all([sign in DIGITS for sign in word]):
        return False
    return len(word) == 1 or word[0] != "0"


def is_row(packet, words):
    """Tell whether some words are a row of a script for a packet."""
    name, *rest = words
    if name == "when":
        return len(rest) == 3 and all([is_number_word(word) for word in rest[:2]]) and is_sheet(rest[2], 1)
    number_counts = {
        "saw": packet.cells, "exchange": 1 + len(packet), "glue": 0, "over": 1, "show": 1, "repeat": 1, "end": 0,
    }
    if len(rest) != number_counts.get(name, -1):
        return False
    return all([is_number_word(word) for word in rest])


def block_ends(packet, rows):
    """Return a dict from the numbers of the first rows of all blocks to those of their ends."""
    ends = {}
    begun = []
    for row, words in enumerate(rows):
        if row >= MOST_ROWS or not is_row(packet, words):
            raise ScriptError(row)
        if words[0] in ("repeat", "when"):
            if len(begun) == DEEPEST_BLOCK:
                raise ScriptError(row)
            begun.append(row)
        elif words[0] == "end":
            if len(begun) == 0:
                raise ScriptError(row)
            ends[begun.pop()] = row
    if len(begun) > 0:
        raise ScriptError(len(rows))
    return ends


class Run:
    """A script that is executed on a bench, and what it writes."""

    def __init__(self, packet, rows):
        self._ends = block_ends(packet, rows)
        self._rows = rows
        self._steps = 0
        self.bench = Bench(packet)
        self.output = []

    def _count_step(self):
        """Count one more step, or raise TooLong before one too many."""
        if self._steps == MOST_STEPS:
            raise TooLong("a script takes too many steps")
        self._steps += 1

    def execute(self, first, last):
        """Execute the rows from a first one on, up to before a last one."""
        row = first
        while row < last:
            self._count_step()
            if row in self._ends:
                self._execute_block(row)
                row = self._ends[row]
            else:
                self._execute_row(row)
            row += 1

    def _execute_block(self, row):
        """Execute the rows of the block that begins at a row as often as that row says."""
        name, *rest = self._rows[row]
        if name == "repeat":
            for _ in range(int(rest[0])):
                self._count_step()
                self.execute(row + 1, self._ends[row])
        elif self._has_letter(row):
            self.execute(row + 1, self._ends[row])

    def _has_letter(self, row):
        """Tell whether the cell that a row names has the letter that it names."""
        _, sheet, cell, letter = self._rows[row]
        packet = self.bench.packet_now
        try:
            check_sheet(packet, int(sheet))
            check_cell(packet, int(cell))
        except SheetError:
            raise ExecutionFailed(row) from None
        return packet.sheets[int(sheet)][int(cell)] == letter

    def _execute_row(self, row):
        """Execute a row that begins no block."""
        name, *rest = self._rows[row]
        try:
            line = self._line_of(name, [int(word) for word in rest])
        except SheetError:
            raise ExecutionFailed(row) from None
        if line is not None:
            self.output.append(line)

    def _line_of(self, name, numbers):
        """Execute what a name and numbers say, and return the line that this writes, or None."""
        line = None
        if name == "saw":
            self.bench.saw(tuple(numbers))
        elif name == "exchange":
            self.bench.exchange(numbers[0], tuple(numbers[1:]))
        elif name == "glue":
            line = str(self.bench.glue())
        elif name == "over":
            self.bench.over(numbers[0])
        else:
            packet = self.bench.packet_now
            check_sheet(packet, numbers[0])
            line = packet.sheets[numbers[0]]
        return line


def run_script(packet, text):
    """Return a bench with a packet behind a script, and the list of all lines that the script writes."""
    rows = [row.split(" ") for row in text.split("\n")] if text != "" else []
    run = Run(packet, rows)
    run.execute(0, len(rows))
    return run.bench, run.output
