"""Packets that came of plain sheets, each of one kind of wood."""

from sawnsheets.checks import MOST_SHEETS, UNREAD, are_kinds, is_sheet, is_worn
from sawnsheets.columns import columns
from sawnsheets.errors import InvalidKinds, InvalidPictures
from sawnsheets.laying import arrangement_count, multiplied
from sawnsheets.packets import Packet, check_size


def check_pictures(pictures, cells, most):
    """Raise InvalidPictures for the first picture that is none or superfluous."""
    for index, picture in enumerate(pictures):
        if index >= most or not is_sheet(picture, cells):
            raise InvalidPictures(index)


def check_worn_pictures(pictures, cells, many):
    """Raise InvalidPictures for the first worn picture that is none, superfluous or missing."""
    for index, picture in enumerate(pictures):
        if index >= many or not is_worn(picture, cells):
            raise InvalidPictures(index)
    if len(pictures) < many:
        raise InvalidPictures(len(pictures))


def check_plain_sheets(width, height, kinds):
    """Raise the error for a wrong size, or else for wrong kinds."""
    check_size(width, height)
    if not are_kinds(kinds):
        raise InvalidKinds("no ascending text of letters")


def one_packet(width, height, pictures):
    """Return the kinds of the plain sheets of which pictures came, or None if they did not."""
    check_size(width, height)
    check_pictures(pictures, width * height, MOST_SHEETS)
    if len(pictures) == 0:
        raise InvalidPictures(0)
    # Pieces never leave their cells, so on each cell of plain sheets there are all kinds.
    found = columns(Packet(width, height, pictures))
    return found[0] if len(set(found)) == 1 else None


def taken_out(kinds, letters):
    """Return the list of the kinds that remain without some letters, or None if there are not as many."""
    left = list(kinds)
    for letter in letters:
        if letter not in left:
            return None
        left.remove(letter)
    return left


def lost_columns(width, height, kinds, pictures):
    """Return for each cell the ascending list of its letters on lost sheets, or None if pictures do not fit."""
    check_plain_sheets(width, height, kinds)
    check_pictures(pictures, width * height, len(kinds))
    found = [taken_out(kinds, [picture[cell] for picture in pictures]) for cell in range(width * height)]
    return None if None in found else found


def lost_count(width, height, kinds, pictures):
    """Return how many different rows of lost sheets there can be beside pictures."""
    found = lost_columns(width, height, kinds, pictures)
    if found is None:
        return 0
    return multiplied([arrangement_count(letters) for letters in found])


def first_lost(width, height, kinds, pictures):
    """Return the first row of lost sheets in tuple order, or None if there is none."""
    found = lost_columns(width, height, kinds, pictures)
    if found is None:
        return None
    # Cells do not depend on one another, so the first sheet takes the first letter of each.
    return tuple(["".join(letters) for letters in zip(*found)])


def read_column(kinds, letters):
    """Return the letters of a cell on all sheets, read where they are sure, or None if they do not fit."""
    left = taken_out(kinds, [letter for letter in letters if letter != UNREAD])
    if left is None:
        return None
    # Only if all that remain are equal, it is sure which of them lies where.
    sure = left[0] if len(set(left)) == 1 else UNREAD
    return [sure if letter == UNREAD else letter for letter in letters]


def restored(width, height, kinds, pictures):
    """Return the texts in which all cells are read that are sure, or None if the pictures do not fit."""
    check_plain_sheets(width, height, kinds)
    check_worn_pictures(pictures, width * height, len(kinds))
    found = [read_column(kinds, letters) for letters in zip(*pictures)]
    if None in found:
        return None
    return tuple(["".join(letters) for letters in zip(*found)])
