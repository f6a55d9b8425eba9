"""Point 1 over the whole program, and the names of the interface."""

import importlib
import inspect
from copy import deepcopy

from sawnsheets import (blades, codec, columns, cutting, laying, mixing, notation, packets, plain, sawing, scripts,
                        turning)
from sawnsheets.benches import Bench
from sawnsheets.errors import SheetError
from sawnsheets.guessing import Guess
from sawnsheets.packets import Packet
from tests.support import SheetTest

ONE = Packet(2, 1, ("ab", "cd"))
CUT, WHOLE = (0, 1), (0, 0)
ROW = (CUT, WHOLE)
GOALS = ("cb", "ad")
CODE = [97, 2, 1, 1, 1, 2, 81]
TEXT = "packet 2 1\nsheet ab\nsheet cd"
# The functions and their parameters, as the interface lists them.
FUNCTIONS = {
    "packets": """is_pattern width height value; patterns width height; pattern_count width height;
        pieces packet pattern; saw_length packet pattern; joined packet one other; is_finer packet one other""",
    "laying": """laid packet pattern orders; undone orders; packet_count packet pattern; picture_count packet pattern;
        can_show packet pattern picture; orders_for packet pattern picture; beside packet pattern picture""",
    "sawing": "least_saw packet picture; least_for_all packet goals; fewest_cuts packet goals longest most",
    "columns": "columns packet; comes_of packet goals; wood packet; same_kind one other; first_names packet",
    "turning": """turnable packet pattern; turned packet pattern some; orbits packet pattern;
        comes_turned packet pattern goals""",
    "plain": """one_packet width height pictures; lost_count width height kinds pictures;
        first_lost width height kinds pictures; restored width height kinds pictures""",
    "blades": "blades packet row life count; best_row packet row life count; packet_of packet row life blade",
    "mixing": """merged one other; over packet indexes; shared_count one pattern other its_pattern;
        first_shared one pattern other its_pattern; fewest_over packet goals""",
    "cutting": "reached_count packet row; can_reach packet row goals; shortest_row packet goals row",
    "notation": "sheet_text packet index; saw_plan packet pattern; format_packet packet; parse_packet text",
    "codec": "encode_packet packet; decode_packet values",
    "scripts": "run_script packet text",
}
CLASSES = {
    "packets": "Packet width height sheets; __len__; __eq__ other",
    "benches": """Bench packet; saw pattern; exchange piece order; glue; over index; keep_as name; fetch name; undo; redo;
        apply_all operations; tried_out operations keep; replay packet operations | Trial bench; hold; __enter__""",
    "guessing": "Guess packet pattern; seen sheet cell letter; sure; best_look",
}
PROPERTIES = {
    Packet: ["width", "height", "sheets", "cells"],
    Bench: ["packet_now", "pattern_now", "length_now", "kept_under", "history"],
    Guess: ["count_left", "told_so_far"],
}
CALLS = [
    (packets.is_pattern, (2, 1, CUT)), (packets.pattern_count, (2, 1)), (packets.pieces, (ONE, CUT)),
    (packets.saw_length, (ONE, CUT)), (packets.joined, (ONE, CUT, WHOLE)), (packets.is_finer, (ONE, CUT, WHOLE)),
    (laying.laid, (ONE, CUT, ((0, 1), (1, 0)))), (laying.undone, (((0, 1), (1, 0)),)),
    (laying.packet_count, (ONE, CUT)), (laying.picture_count, (ONE, CUT)), (laying.can_show, (ONE, CUT, "cb")),
    (laying.orders_for, (ONE, CUT, "cb")), (laying.beside, (ONE, CUT, "cb")), (sawing.least_saw, (ONE, "cb")),
    (sawing.least_for_all, (ONE, GOALS)), (sawing.fewest_cuts, (ONE, GOALS, 1, 2)), (columns.columns, (ONE,)),
    (columns.comes_of, (ONE, GOALS)), (columns.wood, (ONE,)), (columns.same_kind, (ONE, ONE)),
    (columns.first_names, (ONE,)), (turning.turnable, (ONE, CUT)), (turning.turned, (ONE, WHOLE, (0,))),
    (turning.orbits, (ONE, WHOLE)), (turning.comes_turned, (ONE, WHOLE, ("ba", "dc"))),
    (plain.one_packet, (2, 1, ("ab", "ba"))), (plain.lost_count, (2, 1, "aab", ("ab",))),
    (plain.first_lost, (2, 1, "aab", ("ab",))), (plain.restored, (2, 1, "ab", ("a?", "?a"))),
    (blades.blades, (ONE, ROW, 2, 5)), (blades.best_row, (ONE, ROW, 2, 5)), (blades.packet_of, (ONE, ROW, 2, 5)),
    (mixing.merged, (ONE, ONE)), (mixing.over, (ONE, (1,))), (mixing.shared_count, (ONE, CUT, ONE, WHOLE)),
    (mixing.first_shared, (ONE, CUT, ONE, WHOLE)), (mixing.fewest_over, (ONE, ("dc", "ab"))),
    (cutting.reached_count, (ONE, ROW)), (cutting.can_reach, (ONE, ROW, GOALS)),
    (cutting.shortest_row, (ONE, GOALS, ROW)), (notation.sheet_text, (ONE, 1)), (notation.saw_plan, (ONE, CUT)),
    (notation.format_packet, (ONE,)), (notation.parse_packet, (TEXT,)), (codec.encode_packet, (ONE,)),
    (codec.decode_packet, (CODE,)),
]
# Calls with an integer of 0 or 1, in whose place a boolean is another value.
WITH_BOOLEANS = [
    ("InvalidPacket", lambda one: Packet(one, 1, ("a",)), {"part": "width"}),
    ("InvalidPacket", lambda one: Packet(1, one, ("a",)), {"part": "height"}),
    ("InvalidSize", lambda one: list(packets.patterns(one, 1)), {}),
    ("InvalidSize", lambda one: packets.pattern_count(1, one), {}),
    ("InvalidPattern", lambda one: packets.pieces(ONE, (0, one)), {}),
    ("InvalidOrders", lambda one: laying.laid(ONE, WHOLE, ((one, 0),)), {"index": 0}),
    ("InvalidOrders", lambda one: laying.undone(((one, 0),)), {"index": 0}),
    ("InvalidNumber", lambda one: sawing.fewest_cuts(ONE, GOALS, one, 1), {}),
    ("InvalidNumber", lambda one: sawing.fewest_cuts(ONE, GOALS, 1, one), {}),
    ("InvalidPieces", lambda one: turning.turned(ONE, CUT, (one,)), {}),
    ("InvalidSize", lambda one: plain.one_packet(one, 1, ("a",)), {}),
    ("InvalidSize", lambda one: plain.lost_count(1, one, "a", ()), {}),
    ("InvalidSize", lambda one: plain.first_lost(one, 1, "a", ()), {}),
    ("InvalidSize", lambda one: plain.restored(1, one, "a", ("?",)), {}),
    ("InvalidRow", lambda one: blades.blades(ONE, ((0, one),), 1, 1), {"index": 0}),
    ("InvalidNumber", lambda one: blades.blades(ONE, ROW, one, 1), {}),
    ("InvalidNumber", lambda one: blades.blades(ONE, ROW, 1, one), {}),
    ("InvalidNumber", lambda one: blades.packet_of(ONE, ROW, 1, one), {}),
    ("InvalidNumber", lambda one: blades.best_row(ONE, ROW, 1, one), {}),
    ("InvalidIndexes", lambda one: mixing.over(ONE, (one,)), {}),
    ("InvalidPattern", lambda one: mixing.shared_count(ONE, CUT, ONE, (0, one)), {}),
    ("InvalidRow", lambda one: cutting.reached_count(ONE, (WHOLE, (0, one))), {"index": 1}),
    ("InvalidPattern", lambda one: Bench(ONE).saw((0, one)), {}),
    ("UnknownPiece", lambda one: Bench.replay(ONE, [("saw", CUT)]).exchange(one, (0, 1)), {}),
    ("InvalidOrder", lambda one: Bench(ONE).exchange(0, (one, 0)), {}),
    ("UnknownSheet", lambda one: Bench(ONE).over(one), {}),
    ("InvalidPattern", lambda one: Guess(ONE, (0, one)), {}),
    ("UnknownSheet", lambda one: Guess(ONE, WHOLE).seen(one, 0, "c"), {}),
    ("UnknownCell", lambda one: Guess(ONE, WHOLE).seen(0, one, "b"), {}),
    ("UnknownSheet", lambda one: notation.sheet_text(ONE, one), {}),
    ("InvalidPattern", lambda one: notation.saw_plan(ONE, (0, one)), {}),
    ("DecodeError", lambda one: codec.decode_packet([97, one, 2, 1, 1, 2, 221]), {"offset": 1}),
    ("DecodeError", lambda one: codec.decode_packet([97, 2, 1, 1, one, 2, 81]), {"offset": 4}),
]


def parameters(function):
    """Return the names of the parameters of a function."""
    return list(inspect.signature(function).parameters)


class InterfaceTest(SheetTest):

    def test_functions(self):
        for name, listed in FUNCTIONS.items():
            module = importlib.import_module(f"sawnsheets.{name}")
            for row in listed.split(";"):
                word, *wanted = row.split()
                with self.subTest(module=name, function=word):
                    function = getattr(module, word)
                    self.assertEqual(parameters(function), wanted)
                    self.assertEqual(function.__module__, module.__name__)

    def test_classes_and_their_own_methods(self):
        for name, listed in CLASSES.items():
            module = importlib.import_module(f"sawnsheets.{name}")
            for text in listed.split("|"):
                (word, *wanted), *methods = [row.split() for row in text.split(";")]
                kind = getattr(module, word)
                self.assertEqual(parameters(kind), wanted)
                self.assertEqual(kind.__module__, module.__name__)
                for method, *some in methods:
                    with self.subTest(kind=word, method=method):
                        self.assertIn(method, vars(kind))
                        self.assertEqual([x for x in parameters(getattr(kind, method)) if x != "self"], some)

    def test_properties(self):
        for kind, names in PROPERTIES.items():
            for name in names:
                self.assertIsInstance(vars(kind)[name], property)

    def test_replay_is_a_class_method(self):
        self.assertIsInstance(vars(Bench)["replay"], classmethod)

    def test_all_calls_are_tried_here(self):
        listed = {row.split()[0] for text in FUNCTIONS.values() for row in text.split(";")}
        self.assertEqual({call.__name__ for call, _ in CALLS}, listed - {"patterns", "run_script"})


class WholeProgramTest(SheetTest):

    def test_repeated_calls_are_equal_and_arguments_are_as_before(self):
        for call, given in CALLS:
            with self.subTest(call=call.__name__):
                before = deepcopy(given)
                first = call(*given)
                self.assertEqual(call(*given), first)
                self.assertEqual(given, before)
                self.assertIs(type(call(*given)), type(first))

    def test_returned_lists_and_dicts_may_be_modified(self):
        found = columns.wood(ONE)
        found.clear()
        self.assertEqual(columns.wood(ONE), {"a": 1, "b": 1, "c": 1, "d": 1})
        code = codec.encode_packet(ONE)
        code.clear()
        self.assertEqual(codec.decode_packet(codec.encode_packet(ONE)), ONE)
        bench, output = scripts.run_script(ONE, "over 0\nglue")
        output.clear()
        bench.history.clear()
        self.assertEqual(bench.history, [("over", 0), ("glue",)])
        self.assertEqual(scripts.run_script(ONE, "over 0\nglue")[1], ["0"])
        guess = Guess(ONE, CUT)
        guess.seen(0, 0, "c")
        guess.told_so_far.clear()
        self.assertEqual((guess.told_so_far, guess.count_left), ([(0, 0, "c")], 2))
        results = bench.apply_all([("keep_as", "x")])
        results.append(bench.kept_under)
        bench.kept_under.clear()
        self.assertEqual(bench.kept_under, ["x"])

    def test_lists_of_the_caller_are_not_kept(self):
        operations = [("over", 0), ("keep_as", "x")]
        bench = Bench.replay(ONE, operations)
        bench.tried_out(operations, True)
        operations[0] = ("glue",)
        self.assertEqual(bench.history, [("over", 0), ("keep_as", "x")] * 2)
        bench.undo()
        bench.undo()
        bench.redo()
        self.assertEqual(bench.history, [("over", 0), ("keep_as", "x"), ("over", 0)])

    def test_a_boolean_is_no_integer(self):
        for kind, call, attributes in WITH_BOOLEANS:
            for value in (True, False):
                self.fails(kind, call, value, **attributes)

    def test_generators_raise_their_errors_when_the_iteration_begins(self):
        for width, height in [(0, 1), (1, 5), (4, 4), (True, 1)]:
            found = packets.patterns(width, height)
            self.fails("InvalidSize", next, found)

    def test_all_errors_can_be_caught_as_one(self):
        for call in [lambda: Packet(0, 1, ()), lambda: codec.decode_packet([]), lambda: notation.parse_packet(""),
                     lambda: scripts.run_script(ONE, "x"), lambda: scripts.run_script(ONE, "over 9"),
                     lambda: Bench(ONE).apply_all([()]), lambda: blades.blades(ONE, (), 1, 1)]:
            self.assertRaises(SheetError, call)
            self.assertRaises(ValueError, call)
