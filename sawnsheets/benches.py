"""A bench where a packet is worked on, step by step, there and back."""

from sawnsheets.checks import is_from_to, is_sheet
from sawnsheets.errors import InvalidName, InvalidOperation, InvalidOrder, NotWhole, UnknownKept, UnknownPiece
from sawnsheets.laying import is_order, laid
from sawnsheets.mixing import mirrored
from sawnsheets.packets import check_sheet, joined, saw_length

LONGEST_NAME = 8


class Stand:
    """What there is on a bench at one time. It is never changed, so that it can be kept."""

    def __init__(self, packet, pattern, length, kept):
        self.packet = packet
        self.pattern = pattern
        self.length = length
        self.kept = kept


def sawn_by(stand, pattern):
    """Return what there is when it is sawn by one more pattern, and the number of pieces."""
    packet = stand.packet
    now = joined(packet, stand.pattern, pattern)
    more = saw_length(packet, now) - saw_length(packet, stand.pattern)
    return Stand(packet, now, stand.length + more, stand.kept), max(now) + 1


def exchanged(stand, piece, order):
    """Return what there is when pieces lie in another order, and whether it looks otherwise."""
    packet = stand.packet
    if not is_from_to(piece, 0, max(stand.pattern)):
        raise UnknownPiece("no piece has this number")
    if not is_order(order, len(packet)):
        raise InvalidOrder("no order of all sheets")
    orders = [tuple(range(len(packet))) for _ in range(max(stand.pattern) + 1)]
    orders[piece] = order
    new = laid(packet, stand.pattern, tuple(orders))
    return Stand(new, stand.pattern, stand.length, stand.kept), new.sheets != packet.sheets


def glued_again(stand):
    """Return what there is when all sheets are whole, and how long it was sawn since they were so."""
    packet = stand.packet
    return Stand(packet, (0,) * packet.cells, stand.length, stand.kept), saw_length(packet, stand.pattern)


def turned_over(stand, index):
    """Return what there is when a sheet is turned over, and this sheet."""
    check_sheet(stand.packet, index)
    if max(stand.pattern) > 0:
        raise NotWhole("a sheet in pieces is not turned over")
    new = mirrored(stand.packet, (index,))
    return Stand(new, stand.pattern, stand.length, stand.kept), new.sheets[index]


def kept_as(stand, name):
    """Return what there is when it is kept under a name, and whether something was kept under it before."""
    if not isinstance(name, str) or not 1 <= len(name) <= LONGEST_NAME or not is_sheet(name, len(name)):
        raise InvalidName("not one to eight letters a to z")
    kept = {**stand.kept, name: stand}
    return Stand(stand.packet, stand.pattern, stand.length, kept), name in stand.kept


def fetched(stand, name):
    """Return what was kept under a name last, and its top sheet."""
    if not isinstance(name, str) or name not in stand.kept:
        raise UnknownKept("nothing is kept under this name")
    back = stand.kept[name]
    # What was kept since then is not lost.
    return Stand(back.packet, back.pattern, back.length, stand.kept), back.packet.sheets[0]


ACTIONS = {
    "saw": sawn_by, "exchange": exchanged, "glue": glued_again, "over": turned_over, "keep_as": kept_as,
    "fetch": fetched,
}
ARGUMENT_COUNTS = {
    "saw": 1, "exchange": 2, "glue": 0, "over": 1, "keep_as": 1, "fetch": 1, "undo": 0, "redo": 0,
}


def is_operation(value):
    """Tell whether a value is a tuple of the name of an operation and as many arguments as it takes."""
    if not isinstance(value, tuple) or len(value) == 0 or not isinstance(value[0], str):
        return False
    return value[0] in ARGUMENT_COUNTS and len(value) == 1 + ARGUMENT_COUNTS[value[0]]


def check_operations(operations):
    """Raise InvalidOperation for the first of a list of operations that is none."""
    for index, operation in enumerate(operations):
        if not is_operation(operation):
            raise InvalidOperation(index)


class Bench:
    """Where a packet is worked on."""

    def __init__(self, packet):
        # The operations in effect and behind them the undone ones, and what there is before and behind each.
        # These lists are replaced, never changed, so that a trial can keep them.
        self._operations = []
        self._stands = [Stand(packet, (0,) * packet.cells, 0, {})]
        self._done = 0

    @property
    def packet_now(self):
        """The packet as it is now."""
        return self._stands[self._done].packet

    @property
    def pattern_now(self):
        """The pattern by which it is sawn since it was glued."""
        return self._stands[self._done].pattern

    @property
    def length_now(self):
        """The length of all sawing since the first packet."""
        return self._stands[self._done].length

    @property
    def kept_under(self):
        """The ascending list of all names under which something is kept."""
        return sorted(self._stands[self._done].kept)

    @property
    def history(self):
        """The list of all operations in effect."""
        return self._operations[:self._done]

    def saw(self, pattern):
        """Saw by a pattern, and return the number of pieces."""
        return self._execute(("saw", pattern))

    def exchange(self, piece, order):
        """Lay the pieces with a number in another order, and return whether something looks otherwise."""
        return self._execute(("exchange", piece, order))

    def glue(self):
        """Glue all pieces, and return how long it was sawn since the last time."""
        return self._execute(("glue",))

    def over(self, index):
        """Turn a sheet over, and return it."""
        return self._execute(("over", index))

    def keep_as(self, name):
        """Keep what there is under a name, and return whether something was kept under it before."""
        return self._execute(("keep_as", name))

    def fetch(self, name):
        """Return to what was kept under a name, and return the top sheet."""
        return self._execute(("fetch", name))

    def _execute(self, operation):
        """Execute an operation other than `undo` and `redo`, and return its result."""
        name, *arguments = operation
        action = ACTIONS[name]
        before = self._stands[self._done]
        stand, result = action(before, *arguments)
        self._operations = [*self._operations[:self._done], operation]
        self._stands = [*self._stands[:self._done + 1], stand]
        self._done += 1
        return result

    def undo(self):
        """Undo the last operation in effect, and return whether there was one."""
        if self._done == 0:
            return False
        self._done -= 1
        return True

    def redo(self):
        """Execute once more what was undone last, and return whether there was such an operation."""
        if self._done == len(self._operations):
            return False
        # From the same place it would come to the same.
        self._done += 1
        return True

    def _execute_any(self, operation):
        """Execute an operation as a list of operations has it, and return its result."""
        if operation == ("undo",):
            return self.undo()
        if operation == ("redo",):
            return self.redo()
        return self._execute(operation)

    def apply_all(self, operations):
        """Execute all operations of a list, or none if one raises an error, and return their results."""
        check_operations(operations)
        with Trial(self) as trial:
            results = [self._execute_any(operation) for operation in operations]
            trial.hold()
        return results

    def tried_out(self, operations, keep):
        """Execute a list of operations, keep what they change only if told so, and return their results."""
        with Trial(self) as trial:
            results = self.apply_all(operations)
            if keep is True:
                trial.hold()
        return results

    @classmethod
    def replay(cls, packet, operations):
        """Return a bench with a packet behind a list of operations."""
        bench = cls(packet)
        bench.apply_all(operations)
        return bench


class Trial:
    """A block at the end of which a bench is as it was at its beginning, unless the block is held."""

    def __init__(self, bench):
        self._bench = bench
        # None or True, as `__exit__` is to ask of it only whether it is None.
        self._held = None
        self._operations = []
        self._stands = []
        self._done = 0

    def __enter__(self):
        self._held = None
        self._operations = self._bench._operations
        self._stands = self._bench._stands
        self._done = self._bench._done
        return self

    def __exit__(self, kind, value, trace):
        bench = self._bench
        if self._held is None:
            bench._operations = self._operations
            bench._stands = self._stands
            bench._done = self._done

    def hold(self):
        """Let the bench stay as it is at the end of the block."""
        self._held = True
