"""A bench: points 1, 23 and 24."""

from itertools import permutations
from random import Random

from sawnsheets.benches import Bench, Trial
from sawnsheets.errors import NotWhole, SheetError
from sawnsheets.packets import Packet
from tests.support import NO_PATTERNS, SheetTest, groups, neighbours, patterns_tried, saw_length_tried

TWO = Packet(2, 2, ("abab", "cdcd"))
ROWS, COLUMNS, CELLS, WHOLE = (0, 0, 1, 1), (0, 1, 0, 1), (0, 1, 2, 3), (0, 0, 0, 0)
NO_INDEXES = [-1, 2, 10 ** 9, True, False, None, "0", 0.0, (0,), [0]]
NO_NAMES = ["", "abcdefghi", "A", "aB", "a1", "a b", " a", "a\n", "\u00e4", "a_", "-", None, 1, True, ("a",), ["a"]]
WORKED = [("saw", ROWS), ("exchange", 1, (1, 0)), ("keep_as", "x"), ("glue",), ("over", 0)]


def told(bench):
    """Return all that a bench tells."""
    return (bench.packet_now, bench.packet_now.sheets, bench.pattern_now, bench.length_now, bench.kept_under,
            bench.history)


def told_there_and_back(bench):
    """Return all that a bench tells now, behind undoing all there is, and behind executing all there is."""
    forth = 0
    while bench.redo():
        forth += 1
    found, back = [], 0
    while True:
        found.append(told(bench))
        if not bench.undo():
            break
        back += 1
    for _ in range(back - forth):
        bench.redo()
    return found, forth


class Model:
    """A bench that knows only its operations, and executes them all again whenever it is asked."""

    def __init__(self, packet):
        self.packet, self.done, self.undone = packet, [], []

    def step(self, name, *arguments):
        """Execute one operation, `undo` and `redo` among them, and return its result."""
        if name in ("undo", "redo"):
            source, target = (self.done, self.undone) if name == "undo" else (self.undone, self.done)
            if source:
                target.append(source.pop())
                return True
            return False
        result = self.run([*self.done, (name, *arguments)])[1]
        self.done, self.undone = [*self.done, (name, *arguments)], []
        return result

    def run(self, operations):
        """Return what operations leave, and the result of the last one."""
        width, cells = self.packet.width, self.packet.cells
        now, kept, result = ([list(sheet) for sheet in self.packet.sheets], set(), 0), {}, None
        for name, *arguments in operations:
            sheets, sawn, length = [list(sheet) for sheet in now[0]], now[1], now[2]
            labels = self.labels(sawn)
            if name == "saw":
                new = {(cell, near) for cell in range(cells) for near in neighbours(width, cells // width, cell)
                       if cell < near and arguments[0][cell] != arguments[0][near]}
                length, sawn = length + len(new - sawn), sawn | new
                result = len(set(self.labels(sawn)))
            elif name == "exchange":
                for cell in range(cells):
                    if labels[cell] == arguments[0]:
                        for index, source in enumerate(arguments[1]):
                            sheets[index][cell] = now[0][source][cell]
                result = sheets != now[0]
            elif name == "glue":
                sawn, result = set(), len(sawn)
            elif name == "over":
                sheet = sheets[arguments[0]]
                sheets[arguments[0]] = [sheet[cell - cell % width + width - 1 - cell % width] for cell in range(cells)]
                result = "".join(sheets[arguments[0]])
            elif name == "keep_as":
                result = arguments[0] in kept
                kept[arguments[0]] = now
            else:
                sheets, sawn, length = kept[arguments[0]]
                result = "".join(sheets[0])
            now = (sheets, sawn, length)
        return (now, kept), result

    def labels(self, sawn):
        """Return the pattern by which some sides are sawn."""
        width, cells = self.packet.width, self.packet.cells
        found = [None] * cells
        for start in range(cells):
            if found[start] is None:
                number = len(set(found) - {None})
                ahead = [start]
                while ahead:
                    cell = ahead.pop()
                    found[cell] = number
                    ahead.extend(near for near in neighbours(width, cells // width, cell)
                                 if found[near] is None and (min(cell, near), max(cell, near)) not in sawn)
        return tuple(found)

    def told(self):
        """Return all that a bench tells."""
        ((sheets, sawn, length), kept), _ = self.run(self.done)
        texts = tuple("".join(sheet) for sheet in sheets)
        packet = Packet(self.packet.width, self.packet.height, texts)
        return packet, texts, self.labels(sawn), length, sorted(kept), self.done


def random_operation(random, bench, known):
    """Return an operation that a bench can execute now, with one of some known patterns."""
    packet, pattern = bench.packet_now, bench.pattern_now
    orders = list(permutations(range(len(packet))))
    choices = [("saw", random.choice(known)), ("exchange", random.randrange(max(pattern) + 1), random.choice(orders)),
               ("glue",), ("undo",), ("undo",), ("redo",), ("keep_as", random.choice("xyz"))]
    if max(pattern) == 0:
        choices.extend([("over", random.randrange(len(packet)))] * 2)
    if bench.kept_under:
        choices.append(("fetch", random.choice(bench.kept_under)))
    return random.choice(choices)


def executed(bench, name, *arguments):
    """Call the method of a bench with a name."""
    return getattr(bench, name)(*arguments)


class ExamplesTest(SheetTest):

    def test_a_bench(self):
        self.check_example("""
>>> from sawnsheets.benches import Bench
>>> from sawnsheets.packets import Packet
>>> one = Packet(2, 1, ("ab", "cd"))
>>> bench = Bench(one)
>>> told = bench.apply_all([("saw", (0, 1)), ("exchange", 1, (1, 0)), ("glue",), ("over", 0), ("keep_as", "x")])
>>> [told, bench.packet_now.sheets, bench.pattern_now, bench.length_now, bench.undo(), bench.undo(), bench.packet_now.sheets]
[[2, True, 1, 'da', False], ('da', 'cb'), (0, 0), 1, True, True, ('ad', 'cb')]
""")

    def test_an_unknown_piece(self):
        self.check_example("""
>>> from sawnsheets.benches import Bench
>>> from sawnsheets.packets import Packet
>>> one = Packet(2, 1, ("ab", "cd"))
>>> Bench(one).exchange(1, (0, 1))
raises UnknownPiece()
""")


class ModelTest(SheetTest):

    def test_beside_a_bench_that_executes_all_again(self):
        random = Random(23)
        for packet in [Packet(2, 1, ("ab", "cd")), Packet(1, 1, ("a", "b", "c")), TWO, Packet(1, 3, ("abc", "abc")),
                       Packet(2, 2, ("abca",)), Packet(3, 2, ("abcabc", "cabbca", "aaaaaa")),
                       Packet(3, 3, ("abcdefghi", "bcdefghij", "aaaaaaaaa", "abcdefghi"))]:
            known = patterns_tried(packet.width, packet.height)
            for _ in range(12):
                bench, model = Bench(packet), Model(packet)
                for _ in range(25):
                    operation = random_operation(random, bench, known)
                    self.assertEqual(executed(bench, *operation), model.step(*operation), (packet.sheets, model.done))
                    self.assertEqual(told(bench), model.told(), (packet.sheets, model.done))


class SawTest(SheetTest):

    def test_a_new_bench(self):
        self.assertEqual(told(Bench(TWO)), (TWO, TWO.sheets, WHOLE, 0, [], []))

    def test_besides_what_is_sawn_already(self):
        bench = Bench(TWO)
        self.assertEqual(bench.saw(ROWS), 2)
        self.assertEqual((bench.pattern_now, bench.length_now), (ROWS, 2))
        self.assertEqual(bench.saw(ROWS), 2)
        self.assertEqual((bench.pattern_now, bench.length_now), (ROWS, 2))
        self.assertEqual(bench.saw((0, 0, 0, 1)), 3)
        self.assertEqual((bench.pattern_now, bench.length_now), ((0, 0, 1, 2), 3))
        self.assertEqual(bench.saw(WHOLE), 3)
        self.assertEqual(bench.saw(COLUMNS), 4)
        self.assertEqual((bench.pattern_now, bench.length_now), (CELLS, 4))

    def test_all_pairs_of_patterns(self):
        packet = Packet(3, 2, ("abcdef",))
        known = patterns_tried(3, 2)
        for one in known[::3]:
            for other in known:
                bench = Bench(packet)
                bench.saw(one)
                pieces = bench.saw(other)
                self.assertEqual(pieces, len(groups(bench.pattern_now)))
                self.assertEqual(bench.length_now, saw_length_tried(3, 2, bench.pattern_now))
                for cell in range(6):
                    for near in neighbours(3, 2, cell):
                        sawn = one[cell] != one[near] or other[cell] != other[near]
                        self.assertEqual(bench.pattern_now[cell] != bench.pattern_now[near], sawn)

    def test_sides_are_counted_again_behind_gluing(self):
        bench = Bench(TWO)
        bench.saw(ROWS)
        self.assertEqual(bench.glue(), 2)
        self.assertEqual((bench.pattern_now, bench.length_now), (WHOLE, 2))
        bench.saw(CELLS)
        self.assertEqual(bench.length_now, 6)
        self.assertEqual(bench.glue(), 4)
        self.assertEqual(bench.glue(), 0)
        self.assertEqual(bench.length_now, 6)

    def test_invalid_patterns(self):
        bench = Bench(TWO)
        bench.saw(ROWS)
        before = told(bench)
        for wrong in [*NO_PATTERNS, (0, 1), tuple(range(9))]:
            with self.subTest(wrong=wrong):
                self.fails("InvalidPattern", bench.saw, wrong)
                self.assertEqual(told(bench), before)


class ExchangeTest(SheetTest):

    def test_the_order_is_as_in_point_5(self):
        bench = Bench(Packet(2, 1, ("ad", "be", "cf")))
        bench.saw((0, 1))
        self.assertIs(bench.exchange(0, (1, 2, 0)), True)
        self.assertEqual(bench.packet_now.sheets, ("bd", "ce", "af"))
        self.assertIs(bench.exchange(1, (2, 1, 0)), True)
        self.assertEqual(bench.packet_now.sheets, ("bf", "ce", "ad"))
        self.assertEqual(bench.pattern_now, (0, 1))

    def test_whether_something_looks_otherwise(self):
        bench = Bench(Packet(2, 1, ("ab", "ac", "bb")))
        bench.saw((0, 1))
        self.assertIs(bench.exchange(0, (0, 1, 2)), False)
        self.assertIs(bench.exchange(0, (1, 0, 2)), False)
        self.assertIs(bench.exchange(1, (2, 1, 0)), False)
        self.assertIs(bench.exchange(1, (1, 0, 2)), True)
        self.assertEqual(bench.packet_now.sheets, ("ac", "ab", "bb"))
        self.assertEqual(len(bench.history), 5)

    def test_whole_sheets(self):
        bench = Bench(TWO)
        self.assertIs(bench.exchange(0, (1, 0)), True)
        self.assertEqual(bench.packet_now.sheets, ("cdcd", "abab"))
        self.assertEqual(bench.length_now, 0)

    def test_unknown_pieces(self):
        bench = Bench(TWO)
        bench.saw(ROWS)
        before = told(bench)
        for piece in NO_INDEXES:
            with self.subTest(piece=piece):
                self.fails("UnknownPiece", bench.exchange, piece, (1, 0))
                self.fails("UnknownPiece", bench.exchange, piece, (1, 1))
        bench.glue()
        self.fails("UnknownPiece", bench.exchange, 1, (1, 0))
        bench.undo()
        self.assertEqual(told(bench), before)

    def test_values_that_are_no_order(self):
        bench = Bench(TWO)
        for order in [(), (0,), (0, 1, 2), (0, 0), (1, 2), (-1, 0), (False, True), (0, True), ("0", "1"), (0, None),
                      [0, 1], "01", None, 1, (0.0, 1.0)]:
            with self.subTest(order=order):
                self.fails("InvalidOrder", bench.exchange, 0, order)
        self.assertEqual(told(bench), told(Bench(TWO)))


class OverTest(SheetTest):

    def test_rows_from_right_to_left(self):
        bench = Bench(Packet(3, 2, ("abcdef", "ghijkl")))
        self.assertEqual(bench.over(1), "ihglkj")
        self.assertEqual(bench.packet_now.sheets, ("abcdef", "ihglkj"))
        self.assertEqual(bench.over(0), "cbafed")
        self.assertEqual(bench.over(1), "ghijkl")
        self.assertEqual(bench.packet_now.sheets, ("cbafed", "ghijkl"))

    def test_sheets_in_pieces(self):
        bench = Bench(TWO)
        bench.saw(WHOLE)
        self.assertEqual(bench.over(0), "baba")
        bench.saw((0, 0, 0, 1))
        before = told(bench)
        self.fails("NotWhole", bench.over, 0)
        self.assertEqual(told(bench), before)
        bench.glue()
        self.assertEqual(bench.over(0), "abab")

    def test_unknown_sheets_come_first(self):
        bench = Bench(TWO)
        for _ in range(2):
            for index in NO_INDEXES:
                with self.subTest(index=index):
                    self.fails("UnknownSheet", bench.over, index)
            bench.saw(ROWS)


class KeptTest(SheetTest):

    def test_all_that_there_is_comes_back(self):
        bench = Bench(TWO)
        bench.saw(ROWS)
        bench.exchange(0, (1, 0))
        self.assertIs(bench.keep_as("x"), False)
        kept = told(bench)[:4]
        bench.saw(CELLS)
        bench.exchange(3, (1, 0))
        bench.glue()
        bench.over(1)
        self.assertEqual(bench.length_now, 4)
        self.assertEqual(bench.fetch("x"), "cdab")
        self.assertEqual(told(bench)[:4], kept)
        self.assertEqual((bench.pattern_now, bench.length_now), (ROWS, 2))
        self.assertEqual(bench.glue(), 2)

    def test_what_was_kept_last(self):
        bench = Bench(TWO)
        self.assertIs(bench.keep_as("x"), False)
        bench.over(0)
        self.assertIs(bench.keep_as("y"), False)
        self.assertIs(bench.keep_as("x"), True)
        bench.over(1)
        self.assertEqual(bench.fetch("x"), "baba")
        self.assertEqual(bench.packet_now.sheets, ("baba", "cdcd"))
        self.assertIs(bench.keep_as("x"), True)

    def test_names_in_ascending_order(self):
        bench = Bench(TWO)
        for name in ["b", "abcdefgh", "z", "aa", "b", "a"]:
            bench.keep_as(name)
        self.assertEqual(bench.kept_under, ["a", "aa", "abcdefgh", "b", "z"])
        bench.undo()
        bench.undo()
        self.assertEqual(bench.kept_under, ["aa", "abcdefgh", "b", "z"])

    def test_names_kept_later_are_not_lost(self):
        bench = Bench(TWO)
        bench.keep_as("x")
        bench.over(0)
        bench.keep_as("y")
        bench.fetch("x")
        self.assertEqual(bench.kept_under, ["x", "y"])
        self.assertEqual(bench.fetch("y"), "baba")
        self.assertEqual(bench.fetch("x"), "abab")

    def test_something_kept_and_then_undone(self):
        bench = Bench(TWO)
        bench.keep_as("x")
        bench.undo()
        self.assertEqual(bench.kept_under, [])
        self.fails("UnknownKept", bench.fetch, "x")
        self.assertIs(bench.redo(), True)
        self.assertEqual(bench.fetch("x"), "abab")
        bench.over(0)
        self.assertIs(bench.keep_as("x"), True)
        bench.undo()
        self.assertEqual(bench.fetch("x"), "abab")

    def test_unknown_names(self):
        bench = Bench(TWO)
        bench.keep_as("x")
        for name in ["y", "xx", *NO_NAMES]:
            with self.subTest(name=name):
                self.fails("UnknownKept", bench.fetch, name)
        self.assertEqual(bench.history, [("keep_as", "x")])

    def test_invalid_names(self):
        bench = Bench(TWO)
        for name in NO_NAMES:
            with self.subTest(name=name):
                self.fails("InvalidName", bench.keep_as, name)
        self.assertEqual(told(bench), told(Bench(TWO)))


class UndoTest(SheetTest):

    def test_nothing_to_undo_or_redo(self):
        bench = Bench(TWO)
        self.assertIs(bench.undo(), False)
        self.assertIs(bench.redo(), False)
        bench.over(0)
        self.assertIs(bench.redo(), False)
        self.assertIs(bench.undo(), True)
        self.assertIs(bench.undo(), False)
        self.assertIs(bench.redo(), True)
        self.assertIs(bench.redo(), False)
        self.assertEqual(bench.history, [("over", 0)])

    def test_there_and_back(self):
        bench = Bench(TWO)
        found = [told(bench)]
        for operation in WORKED:
            executed(bench, *operation)
            found.append(told(bench))
        for before in reversed(found[:-1]):
            self.assertIs(bench.undo(), True)
            self.assertEqual(told(bench), before)
        for behind in found[1:]:
            self.assertIs(bench.redo(), True)
            self.assertEqual(told(bench), behind)

    def test_no_redo_behind_another_operation(self):
        bench = Bench(TWO)
        bench.over(0)
        bench.over(1)
        bench.undo()
        bench.undo()
        bench.redo()
        bench.glue()
        self.assertIs(bench.redo(), False)
        self.assertEqual(bench.history, [("over", 0), ("glue",)])

    def test_an_operation_that_fails_was_not_executed(self):
        bench = Bench(TWO)
        bench.over(0)
        bench.undo()
        self.fails("UnknownSheet", bench.over, 2)
        self.fails("UnknownKept", bench.fetch, "x")
        self.assertIs(bench.redo(), True)
        self.assertEqual(bench.packet_now.sheets, ("baba", "cdcd"))

    def test_what_is_fetched_is_undone_too(self):
        bench = Bench(TWO)
        bench.keep_as("x")
        bench.saw(ROWS)
        bench.fetch("x")
        self.assertEqual(bench.pattern_now, WHOLE)
        bench.undo()
        self.assertEqual((bench.pattern_now, bench.length_now), (ROWS, 2))
        bench.redo()
        self.assertEqual((bench.pattern_now, bench.length_now), (WHOLE, 0))


class ApplyAllTest(SheetTest):

    def test_results_and_history(self):
        bench = Bench(TWO)
        self.assertEqual(bench.apply_all(WORKED), [2, True, False, 2, "badc"])
        self.assertEqual(bench.history, WORKED)
        self.assertEqual(bench.apply_all([("undo",), ("undo",), ("redo",), ("fetch", "x"), ("redo",)]),
                         [True, True, True, "abcd", False])
        self.assertEqual(bench.history, WORKED[:4] + [("fetch", "x")])
        self.assertEqual(bench.apply_all([]), [])

    def test_each_operation_is_undone_alone(self):
        bench = Bench(TWO)
        bench.apply_all(WORKED)
        bench.undo()
        self.assertEqual(bench.history, WORKED[:-1])

    def test_a_later_operation_that_fails(self):
        wrong = [("InvalidPattern", ("saw", (0, 1))), ("UnknownPiece", ("exchange", 2, (0, 1))),
                 ("InvalidOrder", ("exchange", 0, (0, 0))), ("UnknownSheet", ("over", 2)),
                 ("UnknownKept", ("fetch", "q")), ("InvalidName", ("keep_as", "Q"))]
        for many in range(4):
            for kind, operation in wrong:
                bench = Bench(TWO)
                bench.apply_all(WORKED)
                for _ in range(many):
                    bench.undo()
                bench.glue()
                bench.over(0)
                bench.undo()
                before = told_there_and_back(bench)
                for first in [[], [("undo",)], [("redo",), ("over", 1)], [("undo",), ("undo",), ("keep_as", "y")]]:
                    self.fails(kind, bench.apply_all, [*first, operation, ("over", 0)])
                    self.assertEqual(told_there_and_back(bench), before)
        bench = Bench(TWO)
        self.fails("NotWhole", bench.apply_all, [("over", 0), ("saw", ROWS), ("over", 0)])
        self.assertEqual(told(bench), told(Bench(TWO)))

    def test_something_kept_is_not_kept_when_a_later_one_fails(self):
        bench = Bench(TWO)
        self.fails("UnknownSheet", bench.apply_all, [("keep_as", "x"), ("over", 2)])
        self.fails("UnknownKept", bench.fetch, "x")
        self.fails("UnknownKept", bench.apply_all, [("keep_as", "x"), ("undo",), ("fetch", "x")])

    def test_values_that_are_no_operation(self):
        for wrong in [(), ("saw",), ("saw", ROWS, ROWS), ("glue", 1), ("over",), ("over", 0, 1), ("exchange", 0),
                      ("exchange", 0, (0, 1), 1), ("keep_as",), ("fetch",), ("undo", 1), ("redo", None), ("cut", 0),
                      ("Saw", ROWS), ("history",), ("packet_now",), ("apply_all", []), ("tried_out", [], True),
                      ("replay", TWO, []), ("__init__", TWO), ["glue"], "glue", None, 1, (1,), (None,), (("glue",),),
                      (["glue"],), ("",)]:
            with self.subTest(wrong=wrong):
                bench = Bench(TWO)
                self.fails("InvalidOperation", bench.apply_all, [wrong], index=0)
                self.fails("InvalidOperation", bench.apply_all, [("over", 0), ("undo",), wrong, wrong], index=2)
                # This comes first, even if an operation before it would fail.
                self.fails("InvalidOperation", bench.apply_all, [("over", 9), wrong], index=1)
                self.assertEqual(told(bench), told(Bench(TWO)))

    def test_the_list_is_as_before_and_not_kept(self):
        operations = list(WORKED)
        bench = Bench(TWO)
        results = bench.apply_all(operations)
        self.assertEqual(operations, WORKED)
        operations.clear()
        results.clear()
        self.assertEqual(bench.history, WORKED)

    def test_replay(self):
        bench = Bench.replay(TWO, WORKED + [("undo",)])
        self.assertIs(type(bench), Bench)
        self.assertEqual(bench.history, WORKED[:-1])
        self.assertEqual(told(Bench.replay(TWO, bench.history)), told(bench))
        self.assertIs(bench.redo(), True)
        self.assertEqual(told(Bench.replay(TWO, [])), told(Bench(TWO)))
        self.fails("InvalidOperation", Bench.replay, TWO, [("over", 9), ("saw",)], index=1)
        self.fails("UnknownSheet", Bench.replay, TWO, [("over", 0), ("over", 9)])


class TrialTest(SheetTest):

    def test_a_block_that_is_not_held(self):
        bench = Bench(TWO)
        bench.apply_all(WORKED + [("undo",), ("undo",)])
        before = told_there_and_back(bench)
        with Trial(bench) as trial:
            self.assertIsInstance(trial, Trial)
            self.assertEqual(told_there_and_back(bench), before)
            bench.saw(CELLS)
            bench.keep_as("y")
            bench.glue()
            bench.undo()
            self.assertEqual(bench.kept_under, ["x", "y"])
        self.assertEqual(told_there_and_back(bench), before)
        self.fails("UnknownKept", bench.fetch, "y")
        self.assertIs(bench.redo(), True)
        self.assertEqual(bench.pattern_now, WHOLE)

    def test_undo_and_redo_in_a_block(self):
        bench = Bench(TWO)
        bench.apply_all(WORKED + [("undo",)])
        before = told_there_and_back(bench)
        for operations in [[("undo",)] * 9, [("redo",)] * 2, [("undo",), ("undo",), ("over", 1)]]:
            with Trial(bench):
                for operation in operations:
                    try:
                        executed(bench, *operation)
                    except NotWhole:
                        pass
            self.assertEqual(told_there_and_back(bench), before)

    def test_a_block_that_is_held(self):
        bench, other = Bench(TWO), Bench(TWO)
        with Trial(bench) as trial:
            bench.saw(ROWS)
            self.assertIsNone(trial.hold())
            bench.exchange(0, (1, 0))
            bench.undo()
        other.saw(ROWS)
        other.exchange(0, (1, 0))
        other.undo()
        self.assertEqual(told_there_and_back(bench), told_there_and_back(other))

    def test_a_block_that_an_error_leaves(self):
        for hold in (False, True):
            bench = Bench(TWO)
            bench.over(1)
            before = told(bench)
            with self.assertRaises(ZeroDivisionError):
                with Trial(bench) as trial:
                    bench.over(0)
                    if hold:
                        trial.hold()
                    1 // 0
            self.assertEqual(told(bench) == before, not hold)
            self.assertEqual(len(bench.history), 2 if hold else 1)

    def test_an_error_of_the_bench_leaves_the_block(self):
        bench = Bench(TWO)
        with self.assertRaises(SheetError) as caught:
            with Trial(bench):
                bench.saw(ROWS)
                bench.over(0)
        self.assertIs(type(caught.exception), NotWhole)
        self.assertEqual(told(bench), told(Bench(TWO)))

    def test_blocks_within_blocks(self):
        for outer, inner in [(False, False), (False, True), (True, False), (True, True)]:
            bench = Bench(TWO)
            with Trial(bench) as one:
                bench.over(0)
                with Trial(bench) as other:
                    bench.saw(ROWS)
                    if inner:
                        other.hold()
                self.assertEqual(bench.pattern_now, ROWS if inner else WHOLE)
                bench.keep_as("x")
                if outer:
                    one.hold()
            wanted = [("over", 0)] + [("saw", ROWS)] * inner + [("keep_as", "x")]
            self.assertEqual(bench.history, wanted if outer else [])

    def test_the_beginning_of_the_block_counts(self):
        bench = Bench(TWO)
        trial = Trial(bench)
        bench.over(0)
        trial.hold()
        for _ in range(2):
            with trial:
                bench.glue()
            self.assertEqual(bench.history, [("over", 0)])

    def test_one_trial_for_two_blocks(self):
        bench = Bench(TWO)
        trial = Trial(bench)
        with trial:
            bench.over(0)
            bench.saw(ROWS)
            bench.undo()
            trial.hold()
        before = told_there_and_back(bench)
        self.assertEqual(bench.history, [("over", 0)])
        with trial:
            bench.redo()
            bench.keep_as("x")
        self.assertEqual(told_there_and_back(bench), before)
        with self.assertRaises(NotWhole):
            with trial:
                bench.redo()
                bench.over(1)
        self.assertEqual(told_there_and_back(bench), before)
        with trial:
            bench.glue()
            trial.hold()
        self.assertEqual(bench.history, [("over", 0), ("glue",)])

    def test_tried_out(self):
        bench = Bench(TWO)
        bench.apply_all(WORKED[:2])
        bench.undo()
        before = told_there_and_back(bench)
        operations = [("redo",), ("keep_as", "y"), ("glue",)]
        self.assertEqual(bench.tried_out(operations, False), [True, False, 2])
        self.assertEqual(told_there_and_back(bench), before)
        self.fails("UnknownKept", bench.fetch, "y")
        self.assertEqual(bench.tried_out(operations, True), [True, False, 2])
        self.assertEqual(bench.history, WORKED[:2] + [("keep_as", "y"), ("glue",)])
        self.assertEqual(bench.tried_out([], True), [])
        self.assertEqual(operations, [("redo",), ("keep_as", "y"), ("glue",)])

    def test_tried_out_with_errors(self):
        for keep in (False, True):
            bench = Bench(TWO)
            bench.apply_all(WORKED + [("undo",)])
            before = told_there_and_back(bench)
            self.fails("UnknownSheet", bench.tried_out, [("glue",), ("undo",), ("over", 7)], keep)
            self.fails("InvalidOperation", bench.tried_out, [("over", 7), ("glue", 1)], keep, index=1)
            self.assertEqual(told_there_and_back(bench), before)


class NothingIsSharedTest(SheetTest):

    def test_lists_are_new_for_each_reading(self):
        bench = Bench(TWO)
        bench.apply_all(WORKED)
        bench.history.clear()
        bench.history.append(("glue",))
        bench.kept_under.append("q")
        self.assertEqual((bench.history, bench.kept_under), (WORKED, ["x"]))
        bench.undo()
        bench.history.extend(WORKED)
        self.assertEqual(bench.history, WORKED[:-1])

    def test_benches_with_the_same_packet_do_not_meet(self):
        packet = Packet(2, 1, ("ab", "cd"))
        one, other = Bench(packet), Bench(packet)
        one.apply_all([("saw", (0, 1)), ("exchange", 0, (1, 0)), ("keep_as", "x")])
        self.assertEqual(told(other), told(Bench(Packet(2, 1, ("ab", "cd")))))
        self.assertEqual(packet, Packet(2, 1, ("ab", "cd")))

    def test_properties_are_only_read(self):
        bench = Bench(TWO)
        for name in ["packet_now", "pattern_now", "length_now", "kept_under", "history"]:
            with self.assertRaises(AttributeError):
                setattr(bench, name, None)
