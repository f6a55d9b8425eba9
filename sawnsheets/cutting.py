"""Cuts one after another: the packets that there can be behind the patterns of a row."""

from itertools import combinations

from sawnsheets.errors import TooMany
from sawnsheets.laying import arrangement_count, different_orders, multiplied, places_in_pieces
from sawnsheets.packets import check_row, goal_packet, pieces
from sawnsheets.sawing import heaps

MOST_PACKETS_BEHIND = 2000


def heap_count(heap):
    """Return how many different packets have the same pieces one over another."""
    return multiplied([arrangement_count(texts) for texts in heap])


def sheets_of_heap(heap, places):
    """Return the list of all sheets, as tuples, that have the same pieces one over another."""
    found = [()]
    for texts in heap:
        found = [laid_out + (order,) for laid_out in found for order in different_orders(texts)]
    return [sheets_of_orders(laid_out, places) for laid_out in found]


def sheets_of_orders(laid_out, places):
    """Return the sheets of which the pieces lie in some orders."""
    sheet_count = len(laid_out[0])
    return tuple(["".join([laid_out[number][sheet][at] for number, at in places]) for sheet in range(sheet_count)])


def behind(packet, known, pattern):
    """Return the list of all sheets, as tuples, that known ones can become by a pattern."""
    cells_of_pieces = pieces(packet, pattern)
    # What has the same pieces one over another becomes the same, and nothing else does.
    found = sorted({heaps(sheets, cells_of_pieces) for sheets in known})
    if sum([heap_count(heap) for heap in found]) > MOST_PACKETS_BEHIND:
        raise TooMany("too many packets behind a pattern")
    places = places_in_pieces(packet, pattern)
    return [sheets for heap in found for sheets in sheets_of_heap(heap, places)]


def reached(packet, row):
    """Return the list of all sheets, as tuples, that a packet can have behind the patterns of a row."""
    known = [packet.sheets]
    for pattern in row:
        known = behind(packet, known, pattern)
    return known


def reached_count(packet, row):
    """Return how many different packets there can be behind the patterns of a row."""
    check_row(packet, row)
    return len(reached(packet, row))


def can_reach(packet, row, goals):
    """Tell whether a packet with some sheets is among those behind the patterns of a row."""
    check_row(packet, row)
    goal = goal_packet(packet, goals)
    return goal.sheets in reached(packet, row)


def shortest_row(packet, goals, row):
    """Return the fewest indexes of patterns of a row by which a packet can become one with some sheets, or None."""
    goal = goal_packet(packet, goals)
    check_row(packet, row)
    known = {(): [packet.sheets]}
    for many in range(len(row) + 1):
        for indexes in combinations(range(len(row)), many):
            if many > 0:
                # All without the last one was looked at before, as it is shorter.
                known[indexes] = behind(packet, known[indexes[:-1]], row[indexes[-1]])
            if goal.sheets in known[indexes]:
                return indexes
    return None
