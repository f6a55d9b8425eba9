"""Somebody who sees single cells of a packet, and not how its pieces were laid."""

from sawnsheets.checks import UNREAD
from sawnsheets.errors import NoPacket
from sawnsheets.laying import different_orders, multiplied, places_in_pieces, texts_of
from sawnsheets.packets import check_cell, check_sheet


def letters_at(orders, sheet, at):
    """Return the list of the letters that a place of a piece has on a sheet in some orders."""
    return [order[sheet][at] for order in orders]


class Guess:
    """What is known of a packet whose pieces were laid by a pattern."""

    def __init__(self, packet, pattern):
        # For each piece the orders, as tuples of its texts on all sheets, that are possible.
        self._possible = [different_orders(texts) for texts in texts_of(packet, pattern)]
        self._places = places_in_pieces(packet, pattern)
        self._packet = packet
        self._told = []

    @property
    def count_left(self):
        """The number of different packets that are possible."""
        return multiplied([len(orders) for orders in self._possible])

    @property
    def told_so_far(self):
        """The list of all accepted calls of `seen`."""
        return list(self._told)

    def seen(self, sheet, cell, letter):
        """Take in which letter a cell of a sheet has, and return how many packets are possible then."""
        check_sheet(self._packet, sheet)
        check_cell(self._packet, cell)
        number, at = self._places[cell]
        fitting = [order for order in self._possible[number] if order[sheet][at] == letter]
        if len(fitting) == 0:
            raise NoPacket("no possible packet has this letter there")
        self._possible[number] = fitting
        self._told.append((sheet, cell, letter))
        return self.count_left

    def sure(self):
        """Return the texts of all sheets, with the letters that are sure."""
        return tuple([self._sure_text(sheet) for sheet in range(len(self._packet))])

    def _sure_text(self, sheet):
        """Return the text of a sheet, with the letters that are sure."""
        signs = []
        for number, at in self._places:
            letters = letters_at(self._possible[number], sheet, at)
            signs.append(letters[0] if len(set(letters)) == 1 else UNREAD)
        return "".join(signs)

    def best_look(self):
        """Return the first sheet and cell whose letter leaves the fewest packets in the worst case."""
        looks = [(sheet, cell) for sheet in range(len(self._packet)) for cell in range(self._packet.cells)]
        return min([(self._most_left(sheet, cell), (sheet, cell)) for sheet, cell in looks])[1]

    def _most_left(self, sheet, cell):
        """Return how many packets are possible in the worst case behind a look at a cell of a sheet."""
        number, at = self._places[cell]
        orders = self._possible[number]
        letters = letters_at(orders, sheet, at)
        # All other pieces have as many orders as before.
        return self.count_left // len(orders) * max([letters.count(letter) for letter in letters])
