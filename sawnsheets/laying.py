"""Pieces that are exchanged, and the packets and pictures that come of it."""

from itertools import permutations
from math import factorial

from sawnsheets.checks import is_number, is_sheet
from sawnsheets.errors import InvalidOrders, InvalidPicture
from sawnsheets.packets import Packet, pieces


def is_order(value, many):
    """Tell whether a value is a tuple of the first so many numbers, each once."""
    if not isinstance(value, tuple) or not all([is_number(item) for item in value]):
        return False
    return sorted(value) == list(range(many))


def check_orders(orders, piece_count, sheet_count):
    """Raise InvalidOrders for the first order that is wrong, superfluous or missing."""
    for index, order in enumerate(orders):
        if index >= piece_count or not is_order(order, sheet_count):
            raise InvalidOrders(index)
    if len(orders) < piece_count:
        raise InvalidOrders(len(orders))


def laid(packet, pattern, orders):
    """Return the packet whose pieces lie in other orders."""
    check_orders(orders, len(pieces(packet, pattern)), len(packet))
    sheets = [new_sheet(packet, pattern, orders, index) for index in range(len(packet))]
    return Packet(packet.width, packet.height, tuple(sheets))


def new_sheet(packet, pattern, orders, index):
    """Return the sheet that has an index when pieces lie in other orders."""
    return "".join([packet.sheets[orders[number][index]][cell] for cell, number in enumerate(pattern)])


def undone(orders):
    """Return the orders that lay all pieces back."""
    back = []
    for index, order in enumerate(orders):
        if not isinstance(order, tuple) or not is_order(order, len(orders[0])):
            raise InvalidOrders(index)
        back.append(tuple([order.index(sheet) for sheet in range(len(order))]))
    return tuple(back)


def text_on(sheet, cells):
    """Return what a piece with some cells shows on a sheet."""
    return "".join([sheet[cell] for cell in cells])


def texts_of(packet, pattern):
    """Return for each piece the list of what it shows on all sheets."""
    return [[text_on(sheet, cells) for sheet in packet.sheets] for cells in pieces(packet, pattern)]


def places_in_pieces(packet, pattern):
    """Return for each cell the number of its piece and its place among the cells of this piece."""
    cells_of_pieces = pieces(packet, pattern)
    return [(number, cells_of_pieces[number].index(cell)) for cell, number in enumerate(pattern)]


def different_orders(texts):
    """Return the ascending list of the different orders, as tuples, in which texts can lie."""
    return sorted({order for order in permutations(list(texts))})


def arrangement_count(texts):
    """Return in how many different orders texts can lie, some of which may be equal."""
    count = factorial(len(texts))
    for text in sorted(set(texts)):
        count = count // factorial(texts.count(text))
    return count


def multiplied(numbers):
    """Return the product of some numbers."""
    result = 1
    for number in numbers:
        result = result * number
    return result


def packet_count(packet, pattern):
    """Return how many different packets can come by a pattern."""
    return multiplied([arrangement_count(texts) for texts in texts_of(packet, pattern)])


def picture_count(packet, pattern):
    """Return how many different pictures can come on one sheet by a pattern."""
    return multiplied([len(set(texts)) for texts in texts_of(packet, pattern)])


def choices(packet, pattern, picture):
    """Return for each piece what it shows on all sheets, and what it is to show."""
    cells_of_pieces = pieces(packet, pattern)
    if not is_sheet(picture, packet.cells):
        raise InvalidPicture("no text of a letter for each cell")
    wanted = [text_on(picture, cells) for cells in cells_of_pieces]
    return list(zip(texts_of(packet, pattern), wanted))


def can_show(packet, pattern, picture):
    """Tell whether a picture can come on a sheet by a pattern."""
    return all([wanted in texts for texts, wanted in choices(packet, pattern, picture)])


def order_from(top, indexes):
    """Return the order that has one index at the top, and the others as they come."""
    return tuple([top] + [index for index in indexes if index != top])


def orders_for(packet, pattern, picture):
    """Return the first orders by which the top sheet shows a picture, or None."""
    orders = []
    for texts, wanted in choices(packet, pattern, picture):
        if wanted not in texts:
            return None
        orders.append(order_from(texts.index(wanted), list(range(len(texts)))))
    return tuple(orders)


def beside(packet, pattern, picture):
    """Return the first other sheets that can lie beneath a picture, or None."""
    orders = []
    for texts, wanted in choices(packet, pattern, picture):
        if wanted not in texts:
            return None
        # Pieces share no cells, so the first sheets are those with each piece at its first.
        ranked = sorted([(text, index) for index, text in enumerate(texts)])
        orders.append(order_from(texts.index(wanted), [index for _, index in ranked]))
    return laid(packet, pattern, tuple(orders)).sheets[1:]
