"""What counts as a number, as a size, as a sheet and as kinds of wood."""

LETTERS = "abcdefghijklmnopqrstuvwxyz"
DIGITS = "0123456789"
LONGEST_SIDE = 4
MOST_CELLS = 9
MOST_SHEETS = 4
UNREAD = "?"


def is_number(value):
    """Tell whether a value is an integer, which a boolean is not here."""
    return isinstance(value, int) and not isinstance(value, bool)


def is_from_to(value, least, most):
    """Tell whether a value is an integer from a least to a greatest one."""
    return is_number(value) and least <= value <= most


def is_ascending(value, known):
    """Tell whether a value is an ascending tuple of known numbers, each at most once."""
    if not isinstance(value, tuple) or not all([is_number(number) and number in known for number in value]):
        return False
    return list(value) == sorted(set(value))


def is_side(value):
    """Tell whether a value can be the width or the height of a sheet."""
    return is_from_to(value, 1, LONGEST_SIDE)


def is_size(width, height):
    """Tell whether there are sheets with a width and a height."""
    return is_side(width) and is_side(height) and width * height <= MOST_CELLS


def is_sheet(value, cells):
    """Tell whether a value is a text with a letter a to z for each cell."""
    if not isinstance(value, str) or len(value) != cells:
        return False
    return all(["a" <= sign <= "z" for sign in value])


def are_sheets(value, cells):
    """Tell whether a value is a tuple of as many sheets as a packet can have."""
    if not isinstance(value, tuple) or not 1 <= len(value) <= MOST_SHEETS:
        return False
    return all([is_sheet(sheet, cells) for sheet in value])


def is_worn(value, cells):
    """Tell whether a value is a text with a letter or the sign of an unread cell for each cell."""
    return isinstance(value, str) and is_sheet(value.replace(UNREAD, "a"), cells)


def are_kinds(value):
    """Tell whether a value is an ascending text of as many letters as there can be sheets."""
    if not isinstance(value, str) or not 1 <= len(value) <= MOST_SHEETS:
        return False
    return is_sheet(value, len(value)) and sorted(value) == list(value)
