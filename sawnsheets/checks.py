"""What counts as a number, as a size and as a sheet."""

LONGEST_SIDE = 4
MOST_CELLS = 9
MOST_SHEETS = 4


def is_number(value):
    """Tell whether a value is an integer, which a boolean is not here."""
    return isinstance(value, int) and not isinstance(value, bool)


def is_side(value):
    """Tell whether a value can be the width or the height of a sheet."""
    return is_number(value) and 1 <= value <= LONGEST_SIDE


def is_size(width, height):
    """Tell whether there are sheets with a width and a height."""
    return is_side(width) and is_side(height) and width * height <= MOST_CELLS


def is_sheet(value, cells):
    """Tell whether a value is a text with a letter a to z for each cell."""
    if not isinstance(value, str) or len(value) != cells:
        return False
    return all(["a" <= sign <= "z" for sign in value])


def are_sheets(value, cells):
    """Tell whether a value is a tuple of as many sheets as a packet can have."""
    if not isinstance(value, tuple) or not 1 <= len(value) <= MOST_SHEETS:
        return False
    return all([is_sheet(sheet, cells) for sheet in value])
