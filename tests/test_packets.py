"""Packets: points 1 and 2."""

from sawnsheets.packets import Packet
from tests.support import BAD_SIZES, SIZES, SheetTest

NO_SIDES = [0, 5, -1, 10 ** 20, True, False, None, "2", (2,)]


def letters(cells):
    return "abcdefghijklmnop"[:cells]


class ExamplesTest(SheetTest):

    def test_a_packet_and_its_patterns(self):
        self.check_example("""
>>> from sawnsheets.packets import Packet, is_finer, is_pattern, joined, pattern_count, patterns, pieces, saw_length
>>> packet, rows, columns = Packet(2, 2, ("abab", "cccc")), (0, 0, 1, 1), (0, 1, 0, 1)
>>> told = [packet.cells, len(packet), is_pattern(2, 2, rows), is_pattern(2, 2, (0, 1, 1, 0)), pattern_count(2, 2)]
>>> told.extend([list(patterns(2, 2))[:2], pieces(packet, rows), saw_length(packet, rows)])
>>> told + [joined(packet, rows, columns), is_finer(packet, (0, 1, 2, 3), rows)]
[4, 2, True, False, 12, [(0, 0, 0, 0), (0, 0, 0, 1)], ((0, 1), (2, 3)), 2, (0, 1, 2, 3), True]
""")

    def test_too_many_cells(self):
        self.check_example("""
>>> from sawnsheets.packets import Packet
>>> Packet(3, 4, ("a",))
raises InvalidPacket(part='height')
""")


class GoodPacketsTest(SheetTest):

    def test_all_sizes_and_all_numbers_of_sheets(self):
        for width, height in SIZES:
            for many in range(1, 5):
                with self.subTest(width=width, height=height, many=many):
                    sheets = (letters(width * height),) * many
                    packet = Packet(width, height, sheets)
                    self.assertEqual((packet.width, packet.height), (width, height))
                    self.assertEqual(packet.sheets, sheets)
                    self.assertEqual(packet.cells, width * height)
                    self.assertEqual(len(packet), many)

    def test_the_first_and_the_last_letter_are_good(self):
        self.assertEqual(Packet(2, 1, ("az", "za")).sheets, ("az", "za"))

    def test_the_parameters_have_the_names_of_the_document(self):
        self.assertEqual(Packet(width=2, height=1, sheets=("ab",)), Packet(2, 1, ("ab",)))

    def test_properties_are_read_only(self):
        packet = Packet(2, 1, ("ab",))
        for name in ["width", "height", "sheets", "cells"]:
            with self.subTest(name), self.assertRaises(AttributeError):
                setattr(packet, name, 1)

    def test_the_interface_stands_in_the_class_itself(self):
        for name in ["width", "height", "sheets", "cells", "__len__", "__eq__", "__init__"]:
            self.assertIn(name, vars(Packet))


class EqualityTest(SheetTest):

    def test_equal_if_all_three_parameters_are(self):
        one, other = Packet(2, 2, ("abab", "cccc")), Packet(2, 2, ("ab" + "ab", "c" * 4))
        self.assertTrue(one == other)
        self.assertFalse(one != other)

    def test_unlike_if_one_parameter_is(self):
        packet = Packet(4, 2, ("aaaaaaaa", "bbbbbbbb"))
        self.assertFalse(packet == Packet(2, 4, ("aaaaaaaa", "bbbbbbbb")))
        self.assertFalse(packet == Packet(4, 2, ("bbbbbbbb", "aaaaaaaa")))
        self.assertFalse(packet == Packet(4, 2, ("aaaaaaaa",)))
        self.assertFalse(packet == Packet(4, 2, ("aaaaaaaa", "bbbbbbbc")))
        self.assertTrue(packet != Packet(2, 4, ("aaaaaaaa", "bbbbbbbb")))
        self.assertFalse(Packet(1, 2, ("ab",)) == Packet(2, 1, ("ab",)))

    def test_unlike_what_is_no_packet(self):
        self.assertFalse(Packet(2, 1, ("ab",)) == (2, 1, ("ab",)))
        self.assertFalse(Packet(2, 1, ("ab",)) == None)  # noqa: E711


class BadPacketsTest(SheetTest):

    def test_widths(self):
        for width in NO_SIDES:
            with self.subTest(width=width):
                self.fails("InvalidPacket", Packet, width, 1, ("a",), part="width")

    def test_heights(self):
        for height in NO_SIDES:
            with self.subTest(height=height):
                self.fails("InvalidPacket", Packet, 1, height, ("a",), part="height")

    def test_too_many_cells_are_a_wrong_height(self):
        for width, height in [(3, 4), (4, 3), (4, 4)]:
            with self.subTest(width=width, height=height):
                self.fails("InvalidPacket", Packet, width, height, (letters(width * height),), part="height")

    def test_numbers_of_sheets(self):
        for sheets in [(), ("ab",) * 5, ("ab",) * 6]:
            with self.subTest(sheets=sheets):
                self.fails("InvalidPacket", Packet, 2, 1, sheets, part="sheets")

    def test_lengths_of_sheets(self):
        for sheet in ["", "a", "abc", "abcdef"]:
            with self.subTest(sheet=sheet):
                self.fails("InvalidPacket", Packet, 2, 1, (sheet,), part="sheets")
                self.fails("InvalidPacket", Packet, 2, 1, ("ab", "cd", "ef", sheet), part="sheets")

    def test_signs_that_are_no_letters(self):
        for sign in ["A", "Z", "`", "{", "0", "?", " ", "\n", "\u00e4", "\u00df", "\u0430", "\uff41"]:
            with self.subTest(sign=sign):
                self.fails("InvalidPacket", Packet, 2, 1, ("a" + sign,), part="sheets")
                self.fails("InvalidPacket", Packet, 2, 1, ("ab", sign + "a"), part="sheets")

    def test_values_that_are_no_tuple_of_texts(self):
        for sheets in [["ab"], "ab", None, 1, (1,), (("a", "b"),), (["a", "b"],), (b"ab",), (None,)]:
            with self.subTest(sheets=sheets):
                self.fails("InvalidPacket", Packet, 2, 1, sheets, part="sheets")

    def test_the_first_wrong_parameter_counts(self):
        self.fails("InvalidPacket", Packet, 0, 0, (), part="width")
        self.fails("InvalidPacket", Packet, True, 5, ("?",), part="width")
        self.fails("InvalidPacket", Packet, 5, 4, ("a",), part="width")
        self.fails("InvalidPacket", Packet, 5, 1, (), part="width")
        self.fails("InvalidPacket", Packet, 1, 0, (), part="height")
        self.fails("InvalidPacket", Packet, 4, 4, (), part="height")
        self.fails("InvalidPacket", Packet, 2, True, (), part="height")

    def test_bad_sizes_never_name_the_sheets(self):
        for width, height in BAD_SIZES:
            with self.subTest(width=width, height=height):
                wrong = "width" if width in (0, 5, -1) or isinstance(width, bool) else "height"
                self.fails("InvalidPacket", Packet, width, height, ("?",), part=wrong)
