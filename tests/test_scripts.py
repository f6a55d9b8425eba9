"""Scripts: points 1, 29 and 30."""

from random import Random

from sawnsheets.benches import Bench
from sawnsheets.packets import Packet
from sawnsheets.scripts import run_script
from tests.support import SheetTest

ONE = Packet(2, 1, ("ab", "cd"))
TWO = Packet(2, 2, ("abab", "cdcd", "efgh"))
# Rows that are none in a script for a packet of 2 x 1 cells with two sheets.
NO_ROWS = [
    "", " ", "cut", "Saw 0 1", "saw", "saw 0", "saw 0 1 2", "saw 0 a", "saw 00 1", "saw 0 01", "saw 0 100", "saw 0 -1",
    "saw 0 +1", "saw 0  1", " saw 0 1", "saw 0 1 ", "saw\t0 1", "saw 0 \u0661", "saw 0 \u00b2", "saw 0 1.0", "saw 0,1",
    "saw 0 1\r", "exchange", "exchange 0", "exchange 0 1", "exchange 0 1 0 2", "exchange 0 1 00", "exchange 0 1 x",
    "exchange 010 1 0", "glue 1", "glue ", "Glue", "glue0", "over", "over 0 1", "over x", "over 01", "over 100",
    "show", "show 0 0", "show a", "show 00", "show ", "repeat", "repeat 01", "repeat 100", "repeat x", "repeat 2 2",
    "repeat -1", "repeat ", "when", "when 0", "when 0 0", "when 0 0 a a", "when 0 0 A", "when 0 0 ab", "when 0 0 1",
    "when 0 0 ?", "when 00 0 a", "when 0 00 a", "when 0 100 a", "when a 0 0", "when 0 0 ", "when 0 0 \u00e4",
    "end 0", "end ", "End", "keep_as x", "fetch x", "undo", "redo", "# saw 0 1",
]


def script(*rows):
    """Return the script of some rows."""
    return "\n".join(rows)


def told(bench):
    """Return all that a bench tells."""
    return bench.packet_now, bench.pattern_now, bench.length_now, bench.kept_under, bench.history


class ExamplesTest(SheetTest):

    def test_a_script(self):
        self.check_example(r"""
>>> from sawnsheets.packets import Packet
>>> from sawnsheets.scripts import run_script
>>> one = Packet(2, 1, ("ab", "cd"))
>>> lines = ["saw 0 1", "exchange 0 1 0", "show 0", "when 0 0 c", "glue", "end", "repeat 2", "over 1", "end", "show 1"]
>>> bench, output = run_script(one, "\n".join(lines))
>>> [output, bench.length_now, len(bench.history)]
[['cb', '1', 'ad'], 1, 5]
""")

    def test_a_row_that_fails(self):
        self.check_example("""
>>> from sawnsheets.packets import Packet
>>> from sawnsheets.scripts import run_script
>>> one = Packet(2, 1, ("ab", "cd"))
>>> run_script(one, "over 2")
raises ExecutionFailed(row=0)
""")


class RunTest(SheetTest):

    def check_run(self, packet, rows, output, history):
        """Check what a script writes, and that its bench is one behind some operations."""
        bench, lines = run_script(packet, script(*rows))
        self.assertIs(type(bench), Bench)
        self.assertEqual(lines, output)
        self.assertEqual(bench.history, history)
        self.assertEqual(told(bench), told(Bench.replay(packet, history)))

    def test_the_empty_script(self):
        bench, output = run_script(ONE, "")
        self.assertEqual(output, [])
        self.assertEqual(told(bench), told(Bench(ONE)))

    def test_each_row(self):
        self.check_run(TWO, ["saw 0 0 1 1"], [], [("saw", (0, 0, 1, 1))])
        self.check_run(TWO, ["exchange 0 2 0 1"], [], [("exchange", 0, (2, 0, 1))])
        self.check_run(TWO, ["glue"], ["0"], [("glue",)])
        self.check_run(TWO, ["over 2"], [], [("over", 2)])
        self.check_run(TWO, ["show 2"], ["efgh"], [])
        self.check_run(TWO, ["repeat 2", "end"], [], [])
        self.check_run(TWO, ["when 2 3 h", "end"], [], [])

    def test_rows_one_after_another(self):
        self.check_run(TWO, ["saw 0 0 1 1", "exchange 1 2 1 0", "show 0", "glue", "over 0", "show 0", "saw 0 1 2 3",
                             "saw 0 0 1 1", "glue", "glue", "show 2"],
                       ["abgh", "2", "bahg", "4", "0", "efab"],
                       [("saw", (0, 0, 1, 1)), ("exchange", 1, (2, 1, 0)), ("glue",), ("over", 0),
                        ("saw", (0, 1, 2, 3)), ("saw", (0, 0, 1, 1)), ("glue",), ("glue",)])

    def test_sheets_are_shown_in_pieces_too(self):
        self.check_run(ONE, ["saw 0 1", "exchange 1 1 0", "show 0", "show 1"], ["ad", "cb"],
                       [("saw", (0, 1)), ("exchange", 1, (1, 0))])

    def test_glue_writes_the_length_since_the_last_time(self):
        self.check_run(ONE, ["repeat 3", "saw 0 1", "glue", "end"], ["1", "1", "1"],
                       [("saw", (0, 1)), ("glue",)] * 3)

    def test_repeat(self):
        self.check_run(ONE, ["repeat 3", "over 0", "show 0", "end", "show 1"], ["ba", "ab", "ba", "cd"],
                       [("over", 0)] * 3)
        self.check_run(ONE, ["repeat 1", "show 0", "end"], ["ab"], [])
        self.check_run(ONE, ["repeat 0", "show 0", "over 9", "end", "show 1"], ["cd"], [])
        self.check_run(ONE, ["repeat 2", "repeat 3", "show 0", "end", "show 1", "end"],
                       ["ab", "ab", "ab", "cd"] * 2, [])
        self.check_run(ONE, ["repeat 10", "over 1", "end"], [], [("over", 1)] * 10)

    def test_when(self):
        for letter in "abcd":
            for sheet in (0, 1):
                for cell in (0, 1):
                    holds = ONE.sheets[sheet][cell] == letter
                    self.check_run(ONE, [f"when {sheet} {cell} {letter}", "over 0", "end", "show 1"], ["cd"],
                                   [("over", 0)] * holds)
        # The letter counts that the cell has when the row is executed.
        self.check_run(ONE, ["repeat 4", "when 0 0 a", "over 0", "show 0", "end", "when 1 0 c", "over 1", "end", "end"],
                       ["ba"], [("over", 0), ("over", 1)])
        self.check_run(ONE, ["when 0 0 b", "over 9", "when 9 9 a", "end", "repeat 2", "show 9", "end", "end"], [], [])

    def test_blocks_up_to_four_deep(self):
        self.check_run(ONE, ["repeat 2", "when 0 0 a", "repeat 2", "when 1 1 d", "show 0", "end", "end", "end", "end"],
                       ["ab"] * 4, [])
        self.check_run(ONE, ["repeat 1", "end"] * 5 + ["show 0"], ["ab"], [])
        rows = ["when 0 0 a"] * 3 + ["when 0 0 a", "show 0", "end"] * 3 + ["end"] * 3
        self.check_run(ONE, rows, ["ab"] * 3, [])

    def test_sixty_rows(self):
        self.check_run(ONE, ["show 0"] * 60, ["ab"] * 60, [])
        self.check_run(ONE, ["repeat 1"] + ["show 1"] * 58 + ["end"], ["cd"] * 58, [])

    def test_beside_rows_written_one_after_another(self):
        random = Random(4)
        for _ in range(200):
            rows, flat = self.random_block(random, random.randrange(1, 4))
            bench, output = run_script(TWO, script(*rows))
            other, lines = run_script(TWO, "")
            for row in flat:
                name, *numbers = row.split(" ")
                numbers = [int(number) for number in numbers]
                if name == "saw":
                    other.saw(tuple(numbers))
                elif name == "exchange":
                    other.exchange(numbers[0], tuple(numbers[1:]))
                elif name == "show":
                    lines.append(other.packet_now.sheets[numbers[0]])
                else:
                    lines.append(str(other.glue()))
            self.assertEqual((told(bench), output), (told(other), lines), rows)

    def random_block(self, random, deep):
        """Return rows with blocks up to so deep, and the rows that are executed in them."""
        rows, flat = [], []
        for _ in range(random.randrange(1, 4)):
            row = random.choice(["saw 0 0 1 1", "saw 0 1 0 1", "exchange 0 1 2 0", "exchange 0 0 2 1", "glue", "show 0",
                                 "show 2", "block", "block"])
            if row != "block":
                rows.append(row)
                flat.append(row)
            elif deep > 0:
                times = random.randrange(3)
                inner_rows, inner_flat = self.random_block(random, deep - 1)
                rows.extend([f"repeat {times}", *inner_rows, "end"])
                flat.extend(inner_flat * times)
        return rows, flat


class ScriptErrorTest(SheetTest):

    def test_values_that_are_no_row(self):
        for row in NO_ROWS:
            with self.subTest(row=row):
                if row != "":
                    self.fails("ScriptError", run_script, ONE, row, row=0)
                self.fails("ScriptError", run_script, ONE, script("saw 0 1", row, row), row=1)
                self.fails("ScriptError", run_script, ONE, script("repeat 0", "show 0", row, "end"), row=2)

    def test_line_feeds_at_the_ends(self):
        self.fails("ScriptError", run_script, ONE, "\n", row=0)
        self.fails("ScriptError", run_script, ONE, "show 0\n", row=1)
        self.fails("ScriptError", run_script, ONE, "\nshow 0", row=0)
        self.fails("ScriptError", run_script, ONE, "show 0\n\nshow 0", row=1)

    def test_as_many_numbers_as_the_packet_has_cells_and_sheets(self):
        for row in ["saw 0 1", "saw 0 0 0 0 0", "exchange 0 1 0", "exchange 0 0 1 2 3"]:
            self.fails("ScriptError", run_script, TWO, row, row=0)
        for row in ["saw 0", "exchange 0 0"]:
            self.assertEqual(len(run_script(Packet(1, 1, ("a",)), row)[0].history), 1)

    def test_ends_without_a_block(self):
        self.fails("ScriptError", run_script, ONE, "end", row=0)
        self.fails("ScriptError", run_script, ONE, script("repeat 2", "end", "show 0", "end", "cut"), row=3)
        self.fails("ScriptError", run_script, ONE, script("when 0 0 a", "repeat 1", "end", "end", "end"), row=4)

    def test_missing_ends(self):
        self.fails("ScriptError", run_script, ONE, "repeat 2", row=1)
        self.fails("ScriptError", run_script, ONE, script("when 0 0 b", "show 0"), row=2)
        self.fails("ScriptError", run_script, ONE, script("repeat 0", "repeat 0", "show 0", "end", "show 1"), row=5)
        self.fails("ScriptError", run_script, ONE, script("repeat 0", "cut"), row=1)
        self.fails("ScriptError", run_script, ONE, script(*["repeat 0"] * 4), row=4)

    def test_a_fifth_block_within_blocks(self):
        for opening in ["repeat 1", "when 0 0 a", "repeat 0", "when 0 0 z"]:
            for last in ["repeat 1", "when 0 0 a"]:
                rows = [opening] * 4 + [last] + ["end"] * 5
                self.fails("ScriptError", run_script, ONE, script(*rows), row=4)
                self.fails("ScriptError", run_script, ONE, script(opening, "end", *rows, "cut"), row=6)
        rows = ["repeat 1", "repeat 1", "repeat 1", "repeat 1", "end", "end", "repeat 1", "show 0", "repeat 1"]
        self.fails("ScriptError", run_script, ONE, script(*rows, "repeat 1"), row=9)

    def test_the_61st_row(self):
        for row in ["show 0", "cut", "end", "repeat 1", "", "over 9"]:
            self.fails("ScriptError", run_script, ONE, script(*["show 0"] * 60, row), row=60)
        self.fails("ScriptError", run_script, ONE, script(*["show 0"] * 70), row=60)
        self.fails("ScriptError", run_script, ONE, script("repeat 1", *["show 0"] * 60), row=60)
        self.fails("ScriptError", run_script, ONE, script("repeat 1", *["show 0"] * 59), row=60)
        self.fails("ScriptError", run_script, ONE, script("repeat 1", *["show 0"] * 58), row=59)
        self.fails("ScriptError", run_script, ONE, script(*["show 0"] * 59, "end", "show 0"), row=59)

    def test_scripts_are_looked_over_before_anything_is_executed(self):
        self.fails("ScriptError", run_script, ONE, script("over 9", "show 9", "cut"), row=2)
        self.fails("ScriptError", run_script, ONE, script(*["repeat 99", "end"] * 9, "end"), row=18)
        self.fails("ScriptError", run_script, ONE, script("over 9", "repeat 1"), row=2)


class ExecutionTest(SheetTest):

    def test_rows_that_raise_an_error(self):
        for row in ["saw 0 2", "saw 1 0", "saw 99 10", "exchange 1 1 0", "exchange 0 1 1", "exchange 0 0 2",
                    "exchange 10 0 1", "over 2", "over 99", "show 2", "show 10", "when 2 0 a", "when 0 2 a",
                    "when 99 99 a"]:
            with self.subTest(row=row):
                rows = [row, "end"] if row.startswith("when") else [row]
                self.fails("ExecutionFailed", run_script, ONE, script(*rows), row=0)
                self.fails("ExecutionFailed", run_script, ONE, script("show 0", *rows, "over 9"), row=1)
                self.fails("ExecutionFailed", run_script, ONE, script("repeat 2", "when 0 0 a", *rows, "end", "end"),
                           row=2)
                self.assertEqual(run_script(ONE, script("repeat 0", *rows, "end", "show 0"))[1], ["ab"])

    def test_sheets_that_are_not_whole(self):
        self.fails("ExecutionFailed", run_script, ONE, script("saw 0 1", "over 0"), row=1)
        self.fails("ExecutionFailed", run_script, ONE, script("repeat 2", "over 0", "saw 0 1", "end"), row=1)
        self.assertEqual(run_script(ONE, script("saw 0 1", "glue", "over 0", "show 0"))[1], ["1", "ba"])

    def test_cells_of_the_packet(self):
        self.assertEqual(run_script(TWO, script("when 2 3 h", "show 2", "end"))[1], ["efgh"])
        self.fails("ExecutionFailed", run_script, TWO, script("when 2 4 h", "show 2", "end"), row=0)
        self.fails("ExecutionFailed", run_script, TWO, script("when 3 3 h", "show 2", "end"), row=0)

    def test_the_row_in_a_block_that_fails_not_the_block(self):
        rows = ["when 0 0 a", "when 0 1 b", "show 2", "end", "end"]
        self.fails("ExecutionFailed", run_script, ONE, script(*rows), row=2)


class TooLongTest(SheetTest):

    def test_the_300th_and_the_301st_step(self):
        # One step for the row, and one for each execution of its rows, of which there are none.
        hundred = ["repeat 99", "end"]
        self.assertEqual(run_script(ONE, script(*hundred * 3))[1], [])
        self.fails("TooLong", run_script, ONE, script(*hundred * 3, "show 0"))
        self.fails("TooLong", run_script, ONE, script(*hundred * 3, "repeat 0", "end"))
        self.fails("TooLong", run_script, ONE, script(*hundred * 3, "when 0 0 b", "end"))
        # 1 + 49 * 2 + 1 + 99 * 2 and two more.
        rows = ["repeat 49", "show 0", "end", "repeat 99", "show 1", "end"]
        self.assertEqual(len(run_script(ONE, script(*rows, "show 0", "show 1"))[1]), 150)
        self.fails("TooLong", run_script, ONE, script(*rows, "show 0", "show 1", "glue"))

    def test_what_is_a_step(self):
        # 1 + 10 * (1 + 1 + 10 * (1 + 1)) are 221.
        rows = ["repeat 10", "repeat 10", "show 0", "end", "end"]
        self.assertEqual(len(run_script(ONE, script(*rows, *["show 0"] * 55))[1]), 155)
        # With 1 + 38 * (1 + 1) more they are 298.
        rows += ["repeat 38", "show 0", "end"]
        self.assertEqual(len(run_script(ONE, script(*rows, "glue", "glue"))[1]), 140)
        self.fails("TooLong", run_script, ONE, script(*rows, "glue", "glue", "glue"))

    def test_a_when_is_a_step_but_the_execution_of_its_rows_is_not(self):
        # 1 + 74 * (1 + 1 + 1 + 1) are 297.
        rows = ["repeat 74", "when 0 0 a", "show 0", "when 0 0 b", "show 1", "end", "end", "end"]
        self.assertEqual(len(run_script(ONE, script(*rows, *["glue"] * 3))[1]), 77)
        self.fails("TooLong", run_script, ONE, script(*rows, *["glue"] * 4))

    def test_which_error_comes_first(self):
        hundred = ["repeat 99", "end"]
        almost = [*hundred, *hundred, "repeat 98", "end"]
        self.fails("ExecutionFailed", run_script, ONE, script(*almost, "over 9"), row=6)
        self.fails("TooLong", run_script, ONE, script(*almost, "glue", "over 9"))
        self.fails("TooLong", run_script, ONE, script(*hundred * 3, "over 9"))
        self.fails("ExecutionFailed", run_script, ONE, script("over 9", *hundred * 9), row=0)

    def test_scripts_that_would_never_come_to_an_end_soon(self):
        self.fails("TooLong", run_script, ONE, script(*["repeat 99"] * 4, "over 0", *["end"] * 4))


class NothingIsSharedTest(SheetTest):

    def test_repeated_calls_are_equal_and_results_are_new(self):
        text = script("over 0", "show 0", "saw 0 1", "glue")
        bench, output = run_script(ONE, text)
        output.append("q")
        bench.over(1)
        other, lines = run_script(ONE, text)
        self.assertEqual(lines, ["ba", "1"])
        self.assertEqual(other.packet_now.sheets, ("ba", "cd"))
        self.assertEqual(ONE, Packet(2, 1, ("ab", "cd")))

    def test_operations_of_a_script_can_be_undone(self):
        bench, _ = run_script(ONE, script("repeat 2", "over 0", "end", "saw 0 1"))
        self.assertEqual([bench.undo() for _ in range(4)], [True, True, True, False])
        self.assertEqual(bench.packet_now, ONE)
