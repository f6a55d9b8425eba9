"""The least sawing for a picture or for all sheets, and the fewest cuts."""

from sawnsheets.checks import is_from_to
from sawnsheets.columns import columns
from sawnsheets.errors import InvalidNumber, TooMany
from sawnsheets.laying import can_show, different_orders, text_on
from sawnsheets.packets import all_patterns, goal_packet, pieces, saw_length

LONGEST_CUT = 12
MOST_CUTS = 3
# Above these there would be too many packets to go through.
MOST_CELLS_OF_CUTS = 4
MOST_SHEETS_OF_CUTS = 3


def patterns_of(packet):
    """Return the list of all patterns for a packet in tuple order."""
    return all_patterns(packet.width, packet.cells)


def least(packet, found):
    """Return the least length of some patterns with the first pattern of it, or None if there are none."""
    return min([(saw_length(packet, pattern), pattern) for pattern in found], default=None)


def least_saw(packet, picture):
    """Return the length and the pattern of the least sawing for a picture, or None."""
    # There is always a pattern to begin with, so can_show raises InvalidPicture for a wrong picture.
    return least(packet, [pattern for pattern in patterns_of(packet) if can_show(packet, pattern, picture)])


def heaps(sheets, cells_of_pieces):
    """Return for each piece what lies one over another there, in an order that does not tell the sheets."""
    return tuple([tuple(sorted([text_on(sheet, cells) for sheet in sheets])) for cells in cells_of_pieces])


def can_become(packet, goals, pattern):
    """Tell whether a packet becomes one with some sheets by a pattern."""
    cells_of_pieces = pieces(packet, pattern)
    return heaps(packet.sheets, cells_of_pieces) == heaps(goals, cells_of_pieces)


def least_for_all(packet, goals):
    """Return the length and the pattern of the least sawing for all new sheets, or None."""
    goal = goal_packet(packet, goals)
    return least(packet, [pattern for pattern in patterns_of(packet) if can_become(packet, goal.sheets, pattern)])


def arrangements(packet):
    """Return the list of all sheets, as tuples, that a packet can have behind any cuts."""
    found = [("",) * len(packet)]
    for column in columns(packet):
        found = [added(sheets, order) for sheets in found for order in different_orders(column)]
    return found


def added(sheets, letters):
    """Return sheets with one more letter on each."""
    return tuple([sheet + letter for sheet, letter in zip(sheets, letters)])


def groups_of_one_cut(packet, longest):
    """Return lists of sheets, as tuples, that become one another by a single cut that is not too long."""
    found = []
    known = arrangements(packet)
    for pattern in patterns_of(packet):
        if saw_length(packet, pattern) <= longest:
            found.extend(grouped(known, pieces(packet, pattern)))
    return found


def grouped(known, cells_of_pieces):
    """Return the lists of those sheets that become one another by some pieces."""
    groups = {}
    for sheets in known:
        groups.setdefault(heaps(sheets, cells_of_pieces), []).append(sheets)
    return list(groups.values())


def check_cuts(packet, longest, most):
    """Raise the error for the first of some limits that is wrong, or for a packet that is too large."""
    if not is_from_to(longest, 0, LONGEST_CUT):
        raise InvalidNumber("no cut has this length")
    if not is_from_to(most, 0, MOST_CUTS):
        raise InvalidNumber("not a number of cuts")
    if packet.cells > MOST_CELLS_OF_CUTS or len(packet) > MOST_SHEETS_OF_CUTS:
        raise TooMany("too many cells or sheets to go through all cuts")


def fewest_cuts(packet, goals, longest, most):
    """Return by how few cuts a packet becomes one with some sheets, or None."""
    goal = goal_packet(packet, goals)
    check_cuts(packet, longest, most)
    groups = groups_of_one_cut(packet, longest)
    reached = {packet.sheets: True}
    for count in range(most + 1):
        if goal.sheets in reached:
            return count
        near = [group for group in groups if any([sheets in reached for sheets in group])]
        reached = {sheets: True for group in near for sheets in group}
    return None
