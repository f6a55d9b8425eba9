"""Drawings of sheets and patterns, and texts of packets."""

from sawnsheets.checks import DIGITS, LONGEST_SIDE, MOST_SHEETS, is_sheet
from sawnsheets.errors import InvalidText
from sawnsheets.packets import Packet, check_pattern, check_sheet, rows_of


def sheet_text(packet, index):
    """Return the rows of cells of a sheet, joined by line feeds."""
    check_sheet(packet, index)
    return "\n".join(rows_of(packet, packet.sheets[index]))


def row_plan(row):
    """Return the signs of a row of cells of a pattern."""
    signs = "."
    for one, other in zip(row, row[1:]):
        signs += " ." if one == other else "|."
    return signs


def plan_below(row, next_row):
    """Return the signs between a row of cells of a pattern and the next one."""
    return " ".join([" " if one == other else "-" for one, other in zip(row, next_row)]).rstrip()


def saw_plan(packet, pattern):
    """Return a drawing of the sides that are sawn by a pattern."""
    check_pattern(packet, pattern)
    rows = rows_of(packet, pattern)
    signs = [row_plan(rows[0])]
    for row, next_row in zip(rows, rows[1:]):
        signs.append(plan_below(row, next_row))
        signs.append(row_plan(next_row))
    return "\n".join(signs)


def format_packet(packet):
    """Return the text of a packet."""
    rows = [f"packet {packet.width} {packet.height}"]
    for sheet in packet.sheets:
        rows.append(" ".join(["sheet", *rows_of(packet, sheet)]))
    return "\n".join(rows)


def is_size_word(word):
    """Tell whether a word is a digit that can be a width or a height."""
    return len(word) == 1 and word in DIGITS[1:LONGEST_SIDE + 1]


def check_words(row, words, good):
    """Raise InvalidText for the first word of a row that is wrong, superfluous or missing.

    For each word that is to be there, it is told whether the one that is there is good.
    """
    for word in range(len(words)):
        if word >= len(good) or not good[word]:
            raise InvalidText(row, word)
    if len(words) < len(good):
        raise InvalidText(row, len(words))


def size_of(words):
    """Return the width and the height that the words of the first row tell."""
    first, *sizes = words
    good = [is_size_word(word) for word in sizes[:2]] + [False] * (2 - len(sizes))
    check_words(0, words, [first == "packet", *good])
    return int(sizes[0]), int(sizes[1])


def sheet_of(row, words, width, height):
    """Return the sheet that the words of a row tell."""
    first, *letters = words
    good = [is_sheet(word, width) for word in letters[:height]] + [False] * (height - len(letters))
    check_words(row, words, [first == "sheet", *good])
    return "".join(letters)


def parse_packet(text):
    """Return the packet that a text tells."""
    rows = [row.split(" ") for row in text.split("\n")]
    width, height = size_of(rows[0])
    sheets = []
    for row, words in enumerate(rows[1:], start=1):
        if row > MOST_SHEETS:
            raise InvalidText(row, 0)
        sheets.append(sheet_of(row, words, width, height))
    if len(sheets) == 0:
        raise InvalidText(1, 0)
    return Packet(width, height, tuple(sheets))
