"""Codes: points 1 and 28."""

from itertools import product

from sawnsheets.codec import decode_packet, encode_packet
from sawnsheets.packets import Packet
from tests.support import SIZES, SheetTest

LETTERS = "zyxwvutsrqponmlkjihgfedcba" * 2
NO_ITEMS = [None, "1", 1.0, (1,), [1], True, False, -1, 256, 10 ** 20]


def coded(*items):
    """Return items with their checksum behind them."""
    rest = 8
    for item in items:
        rest = (13 * rest + item) % 233
    return [*items, rest]


class ExamplesTest(SheetTest):

    def test_there_and_back(self):
        self.check_example("""
>>> from sawnsheets.codec import decode_packet, encode_packet
>>> from sawnsheets.packets import Packet
>>> values = encode_packet(Packet(2, 1, ("ab",)))
>>> [values, decode_packet(values).sheets]
[[97, 2, 1, 1, 1, 2, 81], ('ab',)]
""")

    def test_a_width_out_of_range(self):
        self.check_example("""
>>> from sawnsheets.codec import decode_packet
>>> decode_packet([97, 5])
raises DecodeError(offset=1)
""")


class CodecTest(SheetTest):

    def test_all_sizes_there_and_back(self):
        for (width, height), many in product(SIZES, range(1, 5)):
            cells = width * height
            packet = Packet(width, height, tuple(LETTERS[k * cells:(k + 1) * cells] for k in range(many)))
            values = encode_packet(packet)
            letters = [ord(letter) - 96 for letter in "".join(packet.sheets)]
            self.assertEqual(values, coded(97, width, height, many, *letters))
            self.assertTrue(all(type(value) is int and 0 <= value <= 255 for value in values))
            self.assertEqual(decode_packet(values), packet)

    def test_the_first_and_the_last_letter(self):
        self.assertEqual(encode_packet(Packet(2, 1, ("az", "za")))[4:-1], [1, 26, 26, 1])
        self.assertEqual(decode_packet(coded(97, 2, 1, 2, 1, 26, 26, 1)).sheets, ("az", "za"))

    def test_sheet_by_sheet(self):
        self.assertEqual(encode_packet(Packet(1, 2, ("ab", "cd", "ef")))[:-1], [97, 1, 2, 3, 1, 2, 3, 4, 5, 6])

    def test_codes_that_are_too_short(self):
        values = encode_packet(Packet(3, 2, ("abcdef", "uvwxyz")))
        for many in range(len(values)):
            with self.subTest(many=many):
                self.fails("DecodeError", decode_packet, values[:many], offset=many)

    def test_items_that_are_no_integer_or_out_of_range(self):
        values = encode_packet(Packet(2, 2, ("abyz", "zyba")))
        for offset in range(len(values)):
            for wrong in [*NO_ITEMS, 0, 27, 96, 98, 233]:
                if offset < len(values) - 1 or wrong != values[-1]:
                    with self.subTest(offset=offset, wrong=wrong):
                        bad = [*values[:offset], wrong, *values[offset + 1:]]
                        self.fails("DecodeError", decode_packet, bad, offset=offset)
                        self.fails("DecodeError", decode_packet, bad[:offset + 1], offset=offset)

    def test_sides_and_numbers_of_sheets(self):
        for offset in (1, 2, 3):
            for wrong in (0, 5):
                values = [97, 1, 1, 1, 1]
                values[offset] = wrong
                self.fails("DecodeError", decode_packet, coded(*values), offset=offset)

    def test_letters_out_of_range(self):
        for wrong in (0, 27, 97):
            self.fails("DecodeError", decode_packet, coded(97, 1, 2, 1, 1, wrong), offset=5)

    def test_wrong_checksums(self):
        values = encode_packet(Packet(2, 1, ("ab",)))
        for wrong in range(256):
            if wrong != values[-1]:
                self.fails("DecodeError", decode_packet, [*values[:-1], wrong], offset=6)
        self.fails("DecodeError", decode_packet, [*values[:-1], values[-1] + 233], offset=6)
        self.fails("DecodeError", decode_packet, [*values[:-1], float(values[-1])], offset=6)

    def test_a_boolean_is_no_checksum(self):
        # With these letters the checksums are 0 and 1.
        for wanted in (0, 1):
            first, second = next((x, y) for x, y in product(range(1, 27), repeat=2)
                                 if coded(97, 2, 1, 1, x, y)[-1] == wanted)
            values = coded(97, 2, 1, 1, first, second)
            self.assertEqual(decode_packet(values).cells, 2)
            self.fails("DecodeError", decode_packet, [*values[:-1], bool(wanted)], offset=6)

    def test_items_behind_the_checksum(self):
        values = encode_packet(Packet(2, 1, ("ab",)))
        for more in [[0], [81], [None], [1, 2, 3]]:
            self.fails("DecodeError", decode_packet, values + more, offset=7)
        self.fails("DecodeError", decode_packet, values[:-1] + [80, 81], offset=6)

    def test_the_first_wrong_item_counts(self):
        self.fails("DecodeError", decode_packet, [], offset=0)
        self.fails("DecodeError", decode_packet, [96, 5, 5], offset=0)
        self.fails("DecodeError", decode_packet, [97, 2, 5, 9], offset=2)
        self.fails("DecodeError", decode_packet, [97, 2, 1, 1, 1, 0, 81, 5], offset=5)

    def test_too_many_cells_for_a_packet(self):
        for width, height in [(4, 3), (3, 4), (4, 4)]:
            values = coded(97, width, height, 1, *[5] * (width * height))
            self.fails("InvalidPacket", decode_packet, values, part="height")
            self.fails("DecodeError", decode_packet, values[:-1], offset=len(values) - 1)
            self.fails("DecodeError", decode_packet, values + [0], offset=len(values))
            self.fails("DecodeError", decode_packet, values[:9] + [27] + values[10:], offset=9)

    def test_lists_are_as_before_and_new(self):
        packet = Packet(2, 1, ("ab",))
        values = encode_packet(packet)
        values.append(3)
        self.fails("DecodeError", decode_packet, values, offset=7)
        self.assertEqual(values, [97, 2, 1, 1, 1, 2, 81, 3])
        self.assertEqual(encode_packet(packet), [97, 2, 1, 1, 1, 2, 81])
        values = encode_packet(packet)
        self.assertEqual(decode_packet(values), decode_packet(values))
        self.assertEqual(values, encode_packet(packet))
