"""The errors that the package raises."""


class SheetError(ValueError):
    """The base class of all errors of the package."""


class InvalidPacket(SheetError):
    """A packet has a part that it cannot have."""

    def __init__(self, part):
        super().__init__(f"a packet cannot have this {part}")
        self.part = part


class InvalidSize(SheetError):
    """A width or a height is out of range, or there are too many cells."""


class InvalidPattern(SheetError):
    """A value is no pattern for the cells of a packet."""


class InvalidOrders(SheetError):
    """An order is wrong, missing or superfluous."""

    def __init__(self, index):
        super().__init__(f"no good order at index {index}")
        self.index = index


class InvalidPicture(SheetError):
    """A picture is no text of a letter for each cell."""


class InvalidGoals(SheetError):
    """Goals are not as many good sheets as a packet has."""


class InvalidNumber(SheetError):
    """A number is out of range."""


class TooMany(SheetError):
    """There are too many cells, sheets or packets to go through."""


class InvalidPieces(SheetError):
    """Numbers of pieces are not ascending, or no pieces have them."""


class InvalidPictures(SheetError):
    """A picture is wrong, missing or superfluous."""

    def __init__(self, index):
        super().__init__(f"no good picture at index {index}")
        self.index = index


class InvalidKinds(SheetError):
    """Kinds of plain sheets are no ascending text of letters."""


class InvalidRow(SheetError):
    """A pattern of a row is wrong, missing or superfluous."""

    def __init__(self, index):
        super().__init__(f"no good pattern at index {index}")
        self.index = index


class TooShort(SheetError):
    """The life of a blade is too short for a pattern."""

    def __init__(self, index):
        super().__init__(f"a life is too short for the pattern at index {index}")
        self.index = index


class UnlikeSizes(SheetError):
    """Two packets are not as large as each other."""


class InvalidIndexes(SheetError):
    """Indexes of sheets are not ascending, or no sheets have them."""


class UnknownPiece(SheetError):
    """There is no piece with a number."""


class InvalidOrder(SheetError):
    """A value is no order of all sheets."""


class UnknownSheet(SheetError):
    """There is no sheet with an index."""


class UnknownCell(SheetError):
    """There is no cell with a number."""


class NotWhole(SheetError):
    """A sheet is still in pieces."""


class InvalidName(SheetError):
    """A name is not of one to eight letters."""


class UnknownKept(SheetError):
    """Nothing is kept under a name."""


class InvalidOperation(SheetError):
    """A value is no operation of a bench."""

    def __init__(self, index):
        super().__init__(f"no operation at index {index}")
        self.index = index


class NoPacket(SheetError):
    """No packet would be possible any more."""


class InvalidText(SheetError):
    """A word of the text of a packet is wrong, superfluous or missing."""

    def __init__(self, row, word):
        super().__init__(f"no good word {word} in row {row}")
        self.row = row
        self.word = word


class DecodeError(SheetError):
    """An item of the code of a packet is wrong, superfluous or missing."""

    def __init__(self, offset):
        super().__init__(f"no good item at offset {offset}")
        self.offset = offset


class ScriptError(SheetError):
    """A row of a script is none, or its blocks do not fit."""

    def __init__(self, row):
        super().__init__(f"no good row {row} of a script")
        self.row = row


class ExecutionFailed(SheetError):
    """A row of a script could not be executed."""

    def __init__(self, row):
        super().__init__(f"row {row} of a script could not be executed")
        self.row = row


class TooLong(SheetError):
    """A script takes too many steps."""
