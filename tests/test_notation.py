"""Drawings and texts: points 1, 26 and 27."""

from itertools import product

from sawnsheets.notation import format_packet, parse_packet, saw_plan, sheet_text
from sawnsheets.packets import Packet
from tests.support import NO_PATTERNS, SIZES, SheetTest, patterns_tried

TWO = Packet(2, 2, ("abab", "cdcd"))
LETTERS = "abcdefghijklmnopqrstuvwxyz" * 2
GOOD = "packet 2 2\nsheet ab ab\nsheet cd cd"
# Every text is wrong first at this row and this word.
WRONG = [
    ("", 0, 0), ("\n", 0, 0), (" ", 0, 0), ("packets 2 2", 0, 0), ("Packet 2 2\nsheet ab ab", 0, 0),
    (" packet 2 2\nsheet ab ab", 0, 0), ("sheet ab ab", 0, 0), ("\npacket 2 2\nsheet ab ab", 0, 0),
    ("packet", 0, 1), ("packet\nsheet ab ab", 0, 1), ("packet ", 0, 1), ("packet 0 2\nsheet ab ab", 0, 1),
    ("packet 5 2", 0, 1), ("packet 02 2", 0, 1), ("packet +2 2", 0, 1), ("packet -1 2", 0, 1), ("packet x 2", 0, 1),
    ("packet  2 2", 0, 1), ("packet 22 2", 0, 1), ("packet 12 9\nsheets", 0, 1), ("packet \u0662 2", 0, 1),
    ("packet \u00b2 2", 0, 1), ("packet 2.0 2", 0, 1), ("packet\t2 2", 0, 0),
    ("packet 2", 0, 2), ("packet 2\nsheet ab ab", 0, 2), ("packet 2 ", 0, 2), ("packet 2 0", 0, 2),
    ("packet 2 5", 0, 2), ("packet 2  2", 0, 2), ("packet 2 2\r\nsheet ab ab", 0, 2), ("packet 4 x", 0, 2),
    ("packet 2 2 2\nsheet ab ab", 0, 3), ("packet 2 2 \nsheet ab ab", 0, 3), ("packet 2 2 x y\nshet", 0, 3),
    ("packet 2 2", 1, 0), ("packet 4 4", 1, 0), ("packet 2 2\n", 1, 0), ("packet 2 2\n\nsheet ab ab", 1, 0),
    ("packet 2 2\nsheets ab ab", 1, 0), ("packet 2 2\nSheet ab ab", 1, 0), ("packet 2 2\n sheet ab ab", 1, 0),
    ("packet 2 2\npacket 2 2", 1, 0), ("packet 2 2\nab ab", 1, 0), ("packet 2 2\nsheetab ab", 1, 0),
    ("packet 2 2\nsheet", 1, 1), ("packet 2 2\nsheet ", 1, 1), ("packet 2 2\nsheet a ab", 1, 1),
    ("packet 2 2\nsheet abc ab", 1, 1), ("packet 2 2\nsheet aB ab", 1, 1), ("packet 2 2\nsheet a1 ab", 1, 1),
    ("packet 2 2\nsheet a? ab", 1, 1), ("packet 2 2\nsheet  ab ab", 1, 1), ("packet 2 2\nsheet a\u00e4 ab", 1, 1),
    ("packet 2 2\nsheet abab", 1, 1), ("packet 2 2\nsheet abc", 1, 1), ("packet 2 2\nsheet a b\nsheet", 1, 1),
    ("packet 2 2\nsheet ab", 1, 2), ("packet 2 2\nsheet ab\nsheet cd cd", 1, 2), ("packet 2 2\nsheet ab ", 1, 2),
    ("packet 2 2\nsheet ab  ab", 1, 2), ("packet 2 2\nsheet ab a", 1, 2), ("packet 2 2\nsheet ab AB", 1, 2),
    ("packet 2 2\nsheet ab ab ab", 1, 3), ("packet 2 2\nsheet ab ab ", 1, 3), ("packet 2 2\nsheet ab ab abc\n", 1, 3),
    (GOOD + "\n", 3, 0), (GOOD + "\n\n", 3, 0), (GOOD + "\nsheet", 3, 1), (GOOD + "\nsheet ab", 3, 2),
    (GOOD + " ", 2, 3), (GOOD + "\nsheet ab ab\nsheet ab a", 4, 2), (GOOD + "\r", 2, 2),
    (GOOD + "\nsheet ab ab" * 3, 5, 0), (GOOD + "\nsheet ab ab" * 2 + "\n", 5, 0),
    (GOOD + "\nsheet ab ab" * 2 + "\nsheet ab", 5, 0), (GOOD + "\nsheet ab ab" * 2 + "\nx", 5, 0),
    (GOOD + "\nsheet ab ab" * 5, 5, 0), (GOOD + "\nsheet ab ab\nsheet ab abc\nsheet ab ab", 4, 2),
    # The size is of a digit each, but wants words of its own.
    ("packet 4 4\nsheet abcd abcd abcd", 1, 4), ("packet 4 3\nsheet abcd abc abcd", 1, 2),
    ("packet 1 4\nsheet a b c d e", 1, 5), ("packet 4 1\nsheet abcde", 1, 1),
]


def plan_drawn(packet, pattern):
    """Return a drawing of a pattern, by painting all signs on a grid."""
    width, height = packet.width, packet.height
    grid = [[" "] * (2 * width - 1) for _ in range(2 * height - 1)]
    for cell, number in enumerate(pattern):
        row, column = divmod(cell, width)
        grid[2 * row][2 * column] = "."
        if column + 1 < width and pattern[cell + 1] != number:
            grid[2 * row][2 * column + 1] = "|"
        if row + 1 < height and pattern[cell + width] != number:
            grid[2 * row + 1][2 * column] = "-"
    return "\n".join("".join(row).rstrip(" ") for row in grid)


class ExamplesTest(SheetTest):

    def test_drawings_and_texts(self):
        self.check_example(r"""
>>> from sawnsheets.notation import format_packet, parse_packet, saw_plan, sheet_text
>>> from sawnsheets.packets import Packet
>>> packet = Packet(2, 2, ("abab", "cdcd"))
>>> [sheet_text(packet, 0), saw_plan(packet, (0, 1, 0, 0)), format_packet(packet), parse_packet(format_packet(packet)) == packet]
['ab\nab', '.|.\n  -\n. .', 'packet 2 2\nsheet ab ab\nsheet cd cd', True]
""")

    def test_a_word_that_is_missing(self):
        self.check_example(r"""
>>> from sawnsheets.notation import parse_packet
>>> parse_packet("packet 2 2\nsheet ab")
raises InvalidText(row=1, word=2)
""")


class SheetTextTest(SheetTest):

    def test_rows_of_cells(self):
        packet = Packet(3, 2, ("abcdef", "ghijkl"))
        self.assertEqual(sheet_text(packet, 0), "abc\ndef")
        self.assertEqual(sheet_text(packet, 1), "ghi\njkl")
        self.assertEqual(sheet_text(Packet(2, 3, ("abcdef",)), 0), "ab\ncd\nef")
        self.assertEqual(sheet_text(Packet(4, 1, ("abcd",)), 0), "abcd")
        self.assertEqual(sheet_text(Packet(1, 4, ("abcd",)), 0), "a\nb\nc\nd")
        self.assertEqual(sheet_text(Packet(1, 1, ("a", "b", "c", "d")), 3), "d")

    def test_unknown_sheets(self):
        for index in [2, -1, 10 ** 9, True, False, None, "0", 0.0, (0,)]:
            with self.subTest(index=index):
                self.fails("UnknownSheet", sheet_text, TWO, index)
        self.fails("UnknownSheet", sheet_text, Packet(1, 1, ("a",)), 1)


class SawPlanTest(SheetTest):

    def test_beside_drawings_on_a_grid(self):
        for width, height in SIZES:
            packet = Packet(width, height, ("a" * (width * height),))
            for pattern in patterns_tried(width, height):
                self.assertEqual(saw_plan(packet, pattern), plan_drawn(packet, pattern), pattern)

    def test_one_cell_one_row_and_one_column(self):
        self.assertEqual(saw_plan(Packet(1, 1, ("a",)), (0,)), ".")
        self.assertEqual(saw_plan(Packet(4, 1, ("abcd",)), (0, 0, 1, 2)), ". .|.|.")
        self.assertEqual(saw_plan(Packet(4, 1, ("abcd",)), (0, 0, 0, 0)), ". . . .")
        self.assertEqual(saw_plan(Packet(1, 3, ("abc",)), (0, 0, 1)), ".\n\n.\n-\n.")
        self.assertEqual(saw_plan(Packet(1, 3, ("abc",)), (0, 0, 0)), ".\n\n.\n\n.")

    def test_no_blanks_at_the_ends_of_rows(self):
        self.assertEqual(saw_plan(TWO, (0, 0, 1, 0)), ". .\n-\n.|.")
        self.assertEqual(saw_plan(TWO, (0, 0, 0, 0)), ". .\n\n. .")
        self.assertEqual(saw_plan(TWO, (0, 1, 2, 3)), ".|.\n- -\n.|.")
        nine = Packet(3, 3, ("abcdefghi",))
        self.assertEqual(saw_plan(nine, (0, 0, 0, 0, 1, 0, 0, 0, 0)), ". . .\n  -\n.|.|.\n  -\n. . .")

    def test_invalid_patterns(self):
        for pattern in NO_PATTERNS:
            with self.subTest(pattern=pattern):
                self.fails("InvalidPattern", saw_plan, TWO, pattern)


class PacketTextTest(SheetTest):

    def test_there_and_back(self):
        for (width, height), many in product(SIZES, range(1, 5)):
            cells = width * height
            packet = Packet(width, height, tuple(LETTERS[k * cells:(k + 1) * cells] for k in range(many)))
            text = format_packet(packet)
            rows = [f"packet {width} {height}"]
            for sheet in packet.sheets:
                rows.append("sheet")
                for first in range(0, cells, width):
                    rows[-1] += " " + sheet[first:first + width]
            self.assertEqual(text, "\n".join(rows))
            self.assertEqual(parse_packet(text), packet)

    def test_one_row_and_one_column(self):
        self.assertEqual(format_packet(Packet(4, 1, ("abcd", "zzzz"))), "packet 4 1\nsheet abcd\nsheet zzzz")
        self.assertEqual(format_packet(Packet(1, 3, ("abc",))), "packet 1 3\nsheet a b c")
        self.assertEqual(parse_packet("packet 1 1\nsheet z").sheets, ("z",))

    def test_wrong_missing_and_superfluous_words(self):
        for text, row, word in WRONG:
            with self.subTest(text=text):
                self.fails("InvalidText", parse_packet, text, row=row, word=word)

    def test_every_word_missing_or_replaced(self):
        rows = [row.split(" ") for row in "packet 3 2\nsheet abc def\nsheet ghi jkl\nsheet mno pqr".split("\n")]
        for row, words in enumerate(rows):
            for word in range(len(words)):
                for wrong in ["0", "abcd", "", "packets", "a,b"]:
                    new = [list(some) for some in rows]
                    new[row][word] = wrong
                    text = "\n".join(" ".join(some) for some in new)
                    self.fails("InvalidText", parse_packet, text, row=row, word=word)
                new = rows[:row] + [words[:word]] + rows[row + 1:]
                text = "\n".join(" ".join(some) for some in new)
                self.fails("InvalidText", parse_packet, text, row=row, word=word)

    def test_too_many_cells_for_a_packet(self):
        for width, height in [(4, 3), (3, 4), (4, 4)]:
            text = f"packet {width} {height}\nsheet" + (" " + "a" * width) * height
            self.fails("InvalidPacket", parse_packet, text, part="height")
            self.fails("InvalidText", parse_packet, text + " a", row=1, word=height + 1)
            self.fails("InvalidText", parse_packet, text + "\nsheet", row=2, word=1)

    def test_repeated_calls_are_equal_and_the_packet_is_as_before(self):
        packet = Packet(2, 2, ("abab", "cdcd"))
        self.assertEqual(format_packet(packet), format_packet(packet))
        self.assertEqual(parse_packet(GOOD), parse_packet(GOOD))
        self.assertEqual(saw_plan(packet, (0, 1, 0, 1)), saw_plan(packet, (0, 1, 0, 1)))
        self.assertEqual(sheet_text(packet, 1), sheet_text(packet, 1))
        self.assertEqual(packet, TWO)
