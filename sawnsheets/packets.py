"""Packets of sheets, and the patterns by which they are sawn."""

from sawnsheets.checks import are_sheets, is_from_to, is_number, is_side, is_size
from sawnsheets.errors import (InvalidGoals, InvalidPacket, InvalidPattern, InvalidRow, InvalidSize, UnknownCell,
                               UnknownSheet)

LONGEST_ROW = 5


class Packet:
    """Sheets of one size that lie one over another, from the top one on."""

    def __init__(self, width, height, sheets):
        part = wrong_part(width, height, sheets)
        if part is not None:
            raise InvalidPacket(part)
        self._width = width
        self._height = height
        self._sheets = sheets

    @property
    def width(self):
        """The number of cells in each row."""
        return self._width

    @property
    def height(self):
        """The number of rows."""
        return self._height

    @property
    def sheets(self):
        """The tuple of the texts of all sheets."""
        return self._sheets

    @property
    def cells(self):
        """The number of cells of each sheet."""
        return self._width * self._height

    def __len__(self):
        return len(self._sheets)

    def __eq__(self, other):
        return (isinstance(other, Packet) and self._width == other._width
                and self._height == other._height and self._sheets == other._sheets)


def wrong_part(width, height, sheets):
    """Return the name of the first parameter that no packet has, or None."""
    if not is_side(width):
        return "width"
    if not is_size(width, height):
        return "height"
    if not are_sheets(sheets, width * height):
        return "sheets"
    return None


def goal_packet(packet, goals):
    """Return the packet with goals as its sheets, or raise InvalidGoals if they do not fit a packet."""
    if not are_sheets(goals, packet.cells) or len(goals) != len(packet):
        raise InvalidGoals("not as many good sheets as the packet has")
    return Packet(packet.width, packet.height, goals)


def rows_of(packet, signs):
    """Return the list of the rows of a sheet or of a pattern, which has a sign or a number for each cell."""
    return [signs[first:first + packet.width] for first in range(0, packet.cells, packet.width)]


def check_sheet(packet, index):
    """Raise UnknownSheet for what is no index of a sheet."""
    if not is_from_to(index, 0, len(packet) - 1):
        raise UnknownSheet("no sheet has this index")


def check_cell(packet, cell):
    """Raise UnknownCell for what is no number of a cell."""
    if not is_from_to(cell, 0, packet.cells - 1):
        raise UnknownCell("no cell has this number")


def sides(width, cells):
    """Return all pairs of cells that have a side in common."""
    across = [(cell, cell + 1) for cell in range(cells) if (cell + 1) % width > 0]
    down = [(cell, cell + width) for cell in range(cells - width)]
    return across + down


def parted(width, labels):
    """Return the pattern whose pieces are the areas of cells with equal labels.

    Cells with equal labels that do not hang together are several pieces.
    """
    firsts = list(range(len(labels)))
    for one, other in sides(width, len(labels)):
        if labels[one] == labels[other]:
            # The lower cell stays, so that each area ends up with its first one.
            low = min(firsts[one], firsts[other])
            high = max(firsts[one], firsts[other])
            firsts = [low if first == high else first for first in firsts]
    order = sorted(set(firsts))
    return tuple([order.index(first) for first in firsts])


def check_size(width, height):
    """Raise InvalidSize if there are no sheets with a width and a height."""
    if not is_size(width, height):
        raise InvalidSize("no sheets have this width and this height")


def is_pattern(width, height, value):
    """Tell whether a value is a pattern for sheets of a size."""
    if not is_size(width, height) or not isinstance(value, tuple):
        return False
    if len(value) != width * height or not all([is_number(item) for item in value]):
        return False
    # Parted once more, only what hangs together and is numbered well stays as it is.
    return value == parted(width, value)


def check_pattern(packet, pattern):
    """Raise InvalidPattern for what is no pattern for a packet."""
    if not is_pattern(packet.width, packet.height, pattern):
        raise InvalidPattern("no pattern for the cells of this packet")


def check_row(packet, row):
    """Raise InvalidRow for the first pattern of a row that is none or superfluous, or if there are none."""
    for index, pattern in enumerate(row):
        if index >= LONGEST_ROW or not is_pattern(packet.width, packet.height, pattern):
            raise InvalidRow(index)
    if len(row) == 0:
        raise InvalidRow(0)


def glued(width, pattern, one, other):
    """Return the pattern in which the pieces of two neighbouring cells are one."""
    return parted(width, [pattern[one] if number == pattern[other] else number for number in pattern])


def all_patterns(width, cells):
    """Return the list of all patterns in tuple order."""
    # Every piece can be glued of single cells, side by side.
    found = [tuple(range(cells))]
    for one, other in sides(width, cells):
        more = [glued(width, pattern, one, other) for pattern in found]
        found = sorted(set(found + more))
    return found


def patterns(width, height):
    """Yield all patterns for sheets of a size, in tuple order."""
    check_size(width, height)
    for pattern in all_patterns(width, width * height):
        yield pattern


def pattern_count(width, height):
    """Return how many patterns there are for sheets of a size."""
    return len(list(patterns(width, height)))


def pieces(packet, pattern):
    """Return the tuple of the ascending tuples of the cells of all pieces."""
    check_pattern(packet, pattern)
    found = [[] for _ in range(max(pattern) + 1)]
    for cell, number in enumerate(pattern):
        found[number].append(cell)
    return tuple([tuple(cells) for cells in found])


def saw_length(packet, pattern):
    """Return how many sides there are between cells of different pieces."""
    check_pattern(packet, pattern)
    return len([one for one, other in sides(packet.width, packet.cells) if pattern[one] != pattern[other]])


def joined(packet, one, other):
    """Return the pattern by which all sides of two patterns are sawn."""
    check_pattern(packet, one)
    check_pattern(packet, other)
    return parted(packet.width, list(zip(one, other)))


def is_finer(packet, one, other):
    """Tell whether each piece of one pattern lies within a piece of the other."""
    smaller = pieces(packet, one)
    check_pattern(packet, other)
    return all([len({other[cell] for cell in cells}) == 1 for cells in smaller])
