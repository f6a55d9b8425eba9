"""Blades that wear, while packets are sawn by the patterns of a row again and again."""

from itertools import permutations

from sawnsheets.checks import is_from_to
from sawnsheets.errors import InvalidNumber, TooShort
from sawnsheets.packets import check_row, saw_length

LONGEST_LIFE = 99
MOST_PACKETS = 10 ** 18
MOST_BLADES = 10 ** 15
# What is left while no blade is in the saw: too little even for a packet that is sawn nowhere.
NO_BLADE = -1


def lengths_of(packet, row):
    """Return the list of the lengths of the patterns of a row."""
    return [saw_length(packet, pattern) for pattern in row]


def check_sawing(packet, row, life):
    """Raise the error for a wrong row, a wrong life, or a pattern that is longer than a life."""
    check_row(packet, row)
    if not is_from_to(life, 1, LONGEST_LIFE):
        raise InvalidNumber("no blade has this life")
    for index, length in enumerate(lengths_of(packet, row)):
        if length > life:
            raise TooShort(index)


def check_count(value, most):
    """Raise InvalidNumber for what is no number from 0 to a greatest one."""
    if not is_from_to(value, 0, most):
        raise InvalidNumber("a number is out of range")


def sawn_once(lengths, life, left):
    """Return how many blades are taken for packets of some lengths, and what the one in the saw has left then."""
    taken = 0
    for length in lengths:
        if length > left:
            taken += 1
            left = life
        left -= length
    return taken, left


def rounds_of(lengths, life):
    """Return what was taken and is left before each round of a row, until a round begins as one before.

    With it come the number of that one before, and how many blades were taken up to the end.
    """
    before = []
    numbers = {}
    taken, left = 0, NO_BLADE
    while left not in numbers:
        numbers[left] = len(before)
        before.append((taken, left))
        more, left = sawn_once(lengths, life, left)
        taken += more
    return before, numbers[left], taken


def sawn(lengths, life, count):
    """Return how many blades are taken for so many packets, and what the one in the saw has left then."""
    before, first, taken = rounds_of(lengths, life)
    rounds, rest = divmod(count, len(lengths))
    again = 0
    if rounds >= len(before):
        again, ahead = divmod(rounds - first, len(before) - first)
        rounds = first + ahead
    start, left = before[rounds]
    more, left = sawn_once(lengths[:rest], life, left)
    return start + again * (taken - before[first][0]) + more, left


def blades(packet, row, life, count):
    """Return how many blades are taken for so many packets, and what the one in the saw has left then."""
    check_sawing(packet, row, life)
    check_count(count, MOST_PACKETS)
    if count == 0:
        return (0, 0)
    return sawn(lengths_of(packet, row), life, count)


def packet_of(packet, row, life, blade):
    """Return the number of the first packet that is sawn with the blade with a number, or None."""
    check_sawing(packet, row, life)
    check_count(blade, MOST_BLADES)
    lengths = lengths_of(packet, row)
    if blade > 0 and sum(lengths) == 0:
        return None
    # A row that wears blades at all wears out each within 1000 packets, so that so many packets need all blades.
    low, high = 0, MOST_PACKETS
    while high - low > 1:
        middle = (low + high) // 2
        taken, _ = sawn(lengths, life, middle)
        if taken > blade:
            high = middle
        else:
            low = middle
    return low


def best_row(packet, row, life, count):
    """Return the fewest blades for so many packets, and the first order of a row by which they are taken."""
    check_sawing(packet, row, life)
    check_count(count, MOST_PACKETS)
    found = []
    for order in permutations(list(row)):
        taken, _ = sawn(lengths_of(packet, order), life, count)
        found.append((taken, order))
    return min(found)
