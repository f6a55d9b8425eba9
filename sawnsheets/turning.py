"""Pieces that are turned by a half in their outlines, all that lie one over another at once."""

from sawnsheets.checks import is_ascending
from sawnsheets.columns import columns
from sawnsheets.errors import InvalidPieces
from sawnsheets.packets import Packet, goal_packet, pieces


def turned_cells(width, cells):
    """Return for each cell of a piece the one at whose place it comes by a half turn of the outline."""
    down = [cell // width for cell in cells]
    across = [cell % width for cell in cells]
    row_sum = min(down) + max(down)
    column_sum = min(across) + max(across)
    return [(row_sum - row) * width + column_sum - column for row, column in zip(down, across)]


def turnable(packet, pattern):
    """Return the ascending tuple of the numbers of the pieces that can be turned about."""
    found = []
    for number, cells in enumerate(pieces(packet, pattern)):
        if sorted(turned_cells(packet.width, cells)) == list(cells):
            found.append(number)
    return tuple(found)


def sources(packet, pattern, some):
    """Return for each cell the one whose letters come there when some pieces are turned."""
    found = list(range(packet.cells))
    cells_of_pieces = pieces(packet, pattern)
    for number in some:
        cells = cells_of_pieces[number]
        for cell, place in zip(cells, turned_cells(packet.width, cells)):
            found[place] = cell
    return found


def check_pieces(some, known):
    """Raise InvalidPieces for what is no ascending tuple of known numbers."""
    if not is_ascending(some, known):
        raise InvalidPieces("no ascending tuple of pieces that can be turned")


def turned(packet, pattern, some):
    """Return the packet in which the pieces with some numbers are turned."""
    check_pieces(some, turnable(packet, pattern))
    found = sources(packet, pattern, some)
    sheets = ["".join([sheet[cell] for cell in found]) for sheet in packet.sheets]
    return Packet(packet.width, packet.height, tuple(sheets))


def orbits(packet, pattern):
    """Return the ascending tuples of the cells that can come to one another's places, by their first cells."""
    found = []
    # Turned twice, a piece is as it was, so that at most two cells belong together.
    for cell, other in enumerate(sources(packet, pattern, turnable(packet, pattern))):
        if cell == other:
            found.append((cell,))
        elif cell < other:
            found.append((cell, other))
    return tuple(found)


def comes_turned(packet, pattern, goals):
    """Tell whether a packet can become one with some sheets by any cuts and by turning pieces of a pattern."""
    cells_of_pieces = pieces(packet, pattern)
    now = columns(packet)
    wanted = columns(goal_packet(packet, goals))
    found = sources(packet, pattern, turnable(packet, pattern))
    about = [now[cell] for cell in found]
    # A piece is turned as a whole: its columns come all as they are, or all from the other places.
    return all([are_like(wanted, now, cells) or are_like(wanted, about, cells) for cells in cells_of_pieces])


def are_like(one, other, cells):
    """Tell whether two rows of columns are alike on some cells."""
    return all([one[cell] == other[cell] for cell in cells])
