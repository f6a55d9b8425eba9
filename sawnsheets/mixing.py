"""Two packets: sheets put together, pictures that both can show, and sheets turned over."""

from itertools import combinations

from sawnsheets.checks import is_ascending
from sawnsheets.columns import comes_of
from sawnsheets.errors import InvalidIndexes, UnlikeSizes
from sawnsheets.laying import multiplied
from sawnsheets.packets import Packet, check_pattern, glued, pieces, rows_of, sides


def check_sizes(one, other):
    """Raise UnlikeSizes if two packets are not as large as each other."""
    if (one.width, one.height) != (other.width, other.height):
        raise UnlikeSizes("the packets are not as large")


def merged(one, other):
    """Return the packet in which the sheets of the other packet lie beneath those of the one."""
    check_sizes(one, other)
    return Packet(one.width, one.height, one.sheets + other.sheets)


def areas(packet, pattern, its_pattern):
    """Return the tuple of the cells of all areas that no piece of either of two patterns leaves."""
    found = pattern
    for cell, near in sides(packet.width, packet.cells):
        if its_pattern[cell] == its_pattern[near]:
            found = glued(packet.width, found, cell, near)
    return pieces(packet, found)


def can_begin(packet, pattern, cells, text):
    """Tell whether the piece of the last of some cells can show what a text has for these cells."""
    number = pattern[cells[-1]]
    wanted = [(cell, letter) for cell, letter in zip(cells, text) if pattern[cell] == number]
    return any([all([sheet[cell] == letter for cell, letter in wanted]) for sheet in packet.sheets])


def shared_texts(one, pattern, other, its_pattern, cells):
    """Return the ascending list of the texts that each of two packets can show on some cells."""
    found = [""]
    for many, cell in enumerate(cells):
        begun = cells[:many + 1]
        letters = sorted({sheet[cell] for sheet in one.sheets})
        longer = [text + letter for text in found for letter in letters]
        longer = [text for text in longer if can_begin(one, pattern, begun, text)]
        found = [text for text in longer if can_begin(other, its_pattern, begun, text)]
    return found


def shared_by_area(one, pattern, other, its_pattern):
    """Return for each area its cells and the ascending list of the texts that both packets can show there."""
    check_pattern(one, pattern)
    check_pattern(other, its_pattern)
    check_sizes(one, other)
    found = areas(one, pattern, its_pattern)
    return [(cells, shared_texts(one, pattern, other, its_pattern, cells)) for cells in found]


def shared_count(one, pattern, other, its_pattern):
    """Return how many different pictures two packets can both show, each by its own pattern."""
    return multiplied([len(texts) for _, texts in shared_by_area(one, pattern, other, its_pattern)])


def first_shared(one, pattern, other, its_pattern):
    """Return the first picture that two packets can both show, each by its own pattern, or None."""
    signs = [""] * one.cells
    for cells, texts in shared_by_area(one, pattern, other, its_pattern):
        if len(texts) == 0:
            return None
        # Areas do not depend on one another, so the first picture has the first text of each.
        for cell, letter in zip(cells, texts[0]):
            signs[cell] = letter
    return "".join(signs)


def mirrored(packet, indexes):
    """Return the packet whose sheets with some indexes are mirrored from left to right."""
    sheets = list(packet.sheets)
    for index in indexes:
        sheets[index] = "".join([row[::-1] for row in rows_of(packet, sheets[index])])
    return Packet(packet.width, packet.height, tuple(sheets))


def over(packet, indexes):
    """Return the packet whose sheets with some indexes are turned over."""
    if not is_ascending(indexes, list(range(len(packet)))):
        raise InvalidIndexes("no ascending tuple of indexes of sheets")
    return mirrored(packet, indexes)


def fewest_over(packet, goals):
    """Return the fewest indexes of sheets to be turned over so that a packet becomes one with goals, or None."""
    # There is always () to begin with, so comes_of raises InvalidGoals for wrong goals.
    for many in range(len(packet) + 1):
        for indexes in combinations(range(len(packet)), many):
            if comes_of(mirrored(packet, indexes), goals):
                return indexes
    return None
