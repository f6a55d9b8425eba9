"""Packets as lists of small integers, with a checksum."""

from sawnsheets.checks import LETTERS, LONGEST_SIDE, MOST_SHEETS, is_from_to
from sawnsheets.errors import DecodeError
from sawnsheets.packets import Packet

FIRST_ITEM = 97
CHECKSUM_START = 8
CHECKSUM_FACTOR = 13
CHECKSUM_MODULUS = 233


def checksum(items):
    """Return the checksum of all items before it."""
    rest = CHECKSUM_START
    for item in items:
        rest = (CHECKSUM_FACTOR * rest + item) % CHECKSUM_MODULUS
    return rest


def encode_packet(packet):
    """Return the list of integers that tells a packet."""
    items = [FIRST_ITEM, packet.width, packet.height, len(packet)]
    items.extend([LETTERS.index(letter) + 1 for letter in "".join(packet.sheets)])
    return [*items, checksum(items)]


def check_item(values, offset, least, most):
    """Raise DecodeError if the item at an offset is missing or not an integer in a range."""
    if offset >= len(values) or not is_from_to(values[offset], least, most):
        raise DecodeError(offset)


def decode_packet(values):
    """Return the packet that a list of integers tells."""
    check_item(values, 0, FIRST_ITEM, FIRST_ITEM)
    check_item(values, 1, 1, LONGEST_SIDE)
    check_item(values, 2, 1, LONGEST_SIDE)
    check_item(values, 3, 1, MOST_SHEETS)
    _, width, height, sheet_count = values[:4]
    cells = width * height
    end = 4 + cells * sheet_count
    for offset in range(4, end):
        check_item(values, offset, 1, len(LETTERS))
    wanted = checksum(values[:end])
    check_item(values, end, wanted, wanted)
    if len(values) > end + 1:
        raise DecodeError(end + 1)
    letters = "".join([LETTERS[item - 1] for item in values[4:end]])
    return Packet(width, height, tuple([letters[first:first + cells] for first in range(0, len(letters), cells)]))
