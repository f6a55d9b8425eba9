"""What several tests need: examples that are run, and other ways to count."""

from itertools import permutations, product
from unittest import TestCase

from sawnsheets import errors
from sawnsheets.packets import Packet

SIZES = [(width, height) for width in range(1, 5) for height in range(1, 5) if width * height <= 9]
BAD_SIZES = [(0, 1), (1, 0), (5, 1), (1, 5), (-1, 2), (2, -1), (3, 4), (4, 3), (4, 4), (True, 1), (1, True), (False, 1)]
# Values that are no pattern, no picture and no goals for a packet of 2 x 2 cells with two sheets.
NO_PATTERNS = [(0, 1, 1, 0), (0, 0, 0), (1, 1, 1, 1), (False, False, False, False), [0, 0, 1, 1], None]
NO_PICTURES = [
    "", "abc", "abcde", "abcA", "abc?", "abc ", "abc1", "ab\u00e4c", None, 4, ("a", "b", "a", "b"), list("abab"),
]
NO_GOALS = [
    (), ("abab",), ("abab", "cccc", "abab"), ("aba", "cccc"), ("abab", "ccccc"), ("", ""), ("abab", "ccc?"),
    ("abaB", "cccc"), ("ab b", "cccc"), ("abab", "cc1c"), ("abab", "cc\u00e4c"), ("abab", None), (1, "cccc"),
    (("a", "b", "a", "b"), "cccc"), ("abab", ["c"] * 4), ["abab", "cccc"], "ab", "abab", None, 2,
]


class SheetTest(TestCase):
    """A test case that knows the errors of the package and the document's examples."""

    def fails(self, kind, call, *arguments, **attributes):
        """Check that a call raises exactly an error with some attributes."""
        with self.assertRaises(errors.SheetError) as caught:
            call(*arguments)
        self.assertIs(type(caught.exception), getattr(errors, kind))
        for name, wanted in attributes.items():
            found = getattr(caught.exception, name)
            self.assertIs(type(found), type(wanted))
            self.assertEqual(found, wanted)

    def check_example(self, text):
        """Run an example of the document, whose last row tells the value or the error."""
        *rows, told = text.strip().split("\n")
        rows = [row.removeprefix(">>> ") for row in rows]
        names = {}
        exec("\n".join(rows[:-1]), names)
        if not told.startswith("raises "):
            self.assertEqual(repr(eval(rows[-1], names)), told)
            return
        kind, _, attributes = told.removeprefix("raises ").removesuffix(")").partition("(")
        self.fails(kind, lambda: eval(rows[-1], names), **eval(f"dict({attributes})"))


def neighbours(width, height, cell):
    """Return the cells that have a side in common with a cell."""
    row, column = divmod(cell, width)
    around = [(row - 1, column), (row + 1, column), (row, column - 1), (row, column + 1)]
    return [r * width + c for r, c in around if 0 <= r < height and 0 <= c < width]


def hangs_together(width, height, cells):
    """Tell whether from the first one of some cells all others can be reached."""
    reached, ahead = {cells[0]}, [cells[0]]
    while ahead:
        for cell in neighbours(width, height, ahead.pop()):
            if cell in cells and cell not in reached:
                reached.add(cell)
                ahead.append(cell)
    return len(reached) == len(cells)


def groups(value):
    """Return the lists of the cells with equal numbers, in the order of their first cells."""
    found = {}
    for cell, number in enumerate(value):
        found.setdefault(number, []).append(cell)
    return list(found.values())


def is_good(width, height, value):
    """Tell by the words of the document whether a tuple of numbers is a pattern."""
    firsts = list(dict.fromkeys(value))
    return firsts == list(range(len(firsts))) and all(hangs_together(width, height, cells) for cells in groups(value))


def numberings(cells):
    """Return all tuples in which each number is at most one above all before it, in tuple order."""
    found = [()]
    for _ in range(cells):
        found = [row + (number,) for row in found for number in range(max(row, default=-1) + 2)]
    return found


def patterns_tried(width, height):
    """Return all patterns, in tuple order, by trying all numberings."""
    return [row for row in numberings(width * height) if is_good(width, height, row)]


def all_orders(packet, pattern):
    """Return all orders in tuple order."""
    return list(product(permutations(range(len(packet))), repeat=max(pattern) + 1))


def sheets_by(packet, pattern, orders):
    """Return the sheets that lie in a packet behind some orders."""
    rows = []
    for sheet in range(len(packet)):
        row = [None] * packet.cells
        for number, cells in enumerate(groups(pattern)):
            for cell in cells:
                row[cell] = packet.sheets[orders[number][sheet]][cell]
        rows.append("".join(row))
    return tuple(rows)


def sheets_by_cut(packet, pattern):
    """Return all different sheets that can lie in a packet behind a pattern."""
    return sorted({sheets_by(packet, pattern, orders) for orders in all_orders(packet, pattern)})


def saw_length_tried(width, height, pattern):
    """Return how many sides a pattern saws, each of them being seen from both of its cells."""
    return sum(pattern[cell] != pattern[near] for cell in range(width * height)
               for near in neighbours(width, height, cell)) // 2


def steps_needed(start, steps):
    """Return a dict from all sheets that steps lead to, from a packet on, to the least number of steps."""
    needed, ahead = {start.sheets: 0}, [start.sheets]
    for sheets in ahead:
        for new in steps(Packet(start.width, start.height, sheets)):
            if new not in needed:
                needed[new] = needed[sheets] + 1
                ahead.append(new)
    return needed


def cuts_needed(packet, cuts):
    """Return a dict from all sheets that can come by some patterns to the least number of cuts."""
    return steps_needed(packet, lambda now: [sheets for pattern in cuts for sheets in sheets_by_cut(now, pattern)])


def all_sheets(packet, letters):
    """Return all tuples of sheets of letters that are as large and as many as those of a packet."""
    texts = ["".join(row) for row in product(letters, repeat=packet.cells)]
    return list(product(texts, repeat=len(packet)))


def letters_of(packet):
    """Return the ascending letters of a packet."""
    return sorted(set("".join(packet.sheets)))
