"""What never changes, however a packet is sawn: the letters that lie on each cell."""

from sawnsheets.checks import LETTERS
from sawnsheets.packets import Packet, goal_packet


def columns(packet):
    """Return the tuple of the ascending texts of the letters on all cells."""
    return tuple(["".join(sorted([sheet[cell] for sheet in packet.sheets])) for cell in range(packet.cells)])


def comes_of(packet, goals):
    """Tell whether a packet can become one with some sheets by cuts."""
    # Single cells can be sawn out, so any order of the letters on a cell can come.
    return columns(packet) == columns(goal_packet(packet, goals))


def wood(packet):
    """Return a dict from all letters, ascending, to the numbers of their cells in all sheets."""
    text = "".join(packet.sheets)
    return {letter: text.count(letter) for letter in sorted(set(text))}


def places(packet):
    """Return for each letter how often it lies on each cell, in an order that does not tell the letters."""
    found = columns(packet)
    return sorted([[column.count(letter) for column in found] for letter in wood(packet)])


def same_kind(one, other):
    """Tell whether the one packet can become the other by cuts, but for the names of letters."""
    if (one.width, one.height, len(one)) != (other.width, other.height, len(other)):
        return False
    return places(one) == places(other)


def first_names(packet):
    """Return the packet whose letters are called a, b, c and so on, in the order in which they come."""
    names = {}
    for letter in "".join(packet.sheets):
        if letter not in names:
            names[letter] = LETTERS[len(names)]
    sheets = ["".join([names[sign] for sign in sheet]) for sheet in packet.sheets]
    return Packet(packet.width, packet.height, tuple(sheets))
