"""Pieces exchanged: points 1, 5, 6 and 7."""

from itertools import permutations, product

from sawnsheets.laying import beside, can_show, laid, orders_for, packet_count, picture_count, undone
from sawnsheets.packets import Packet
from tests.support import NO_PATTERNS, NO_PICTURES, SheetTest, all_orders, patterns_tried, sheets_by

# Among them equal sheets, equal pieces on unlike sheets, and up to four sheets.
PACKETS = [
    Packet(1, 1, ("a",)), Packet(1, 1, ("b", "a", "b", "a")), Packet(2, 1, ("ab", "cd")),
    Packet(2, 1, ("ba", "ab", "bb")), Packet(1, 2, ("zy", "yz", "zy", "xy")), Packet(3, 1, ("abc", "cba", "aba")),
    Packet(2, 2, ("abab", "cccc")),
    Packet(2, 2, ("dcba", "abcd", "dcba")), Packet(2, 2, ("bbbb", "bbbb", "bbbb")), Packet(3, 2, ("abcabc", "cabbca")),
    Packet(2, 2, ("abca",)), Packet(2, 2, ("bacb", "abca", "bbca")),
]
CASES = [(packet, pattern) for packet in PACKETS for pattern in patterns_tried(packet.width, packet.height)]
TWO = Packet(2, 2, ("abab", "cccc"))
ROWS = (0, 0, 1, 1)


def sheets_tried(packet, pattern):
    """Return what lies in a packet behind all orders, in tuple order of these."""
    return [(orders, sheets_by(packet, pattern, orders)) for orders in all_orders(packet, pattern)]


def pictures_asked(packet, sheets):
    """Return all pictures of a packet's letters and one more, or for large ones some."""
    if packet.cells <= 3:
        signs = sorted(set("".join(packet.sheets)) | {"q"})
        return ["".join(row) for row in product(signs, repeat=packet.cells)]
    shown = sorted({rows[0] for rows in sheets})
    return shown + [picture[:-1] + "q" for picture in shown[:3]] + [picture[::-1] for picture in shown[:9]]


class ExamplesTest(SheetTest):

    def test_pieces_exchanged(self):
        self.check_example("""
>>> from sawnsheets.laying import beside, can_show, laid, orders_for, packet_count, picture_count, undone
>>> from sawnsheets.packets import Packet
>>> packet, rows = Packet(2, 2, ("abab", "cccc")), (0, 0, 1, 1)
>>> told = [laid(packet, rows, ((0, 1), (1, 0))).sheets, undone(((1, 2, 0),)), packet_count(packet, rows)]
>>> told.extend([picture_count(packet, rows), can_show(packet, rows, "abcc")])
>>> told + [orders_for(packet, rows, "ccab"), beside(packet, rows, "ccab"), beside(packet, rows, "acac")]
[('abcc', 'ccab'), ((2, 0, 1),), 4, 4, True, ((1, 0), (0, 1)), ('abcc',), None]
""")

    def test_too_few_orders(self):
        self.check_example("""
>>> from sawnsheets.laying import laid
>>> from sawnsheets.packets import Packet
>>> laid(Packet(2, 2, ("abab", "cccc")), (0, 0, 1, 1), ((0, 1),))
raises InvalidOrders(index=1)
""")


class LaidTest(SheetTest):

    def test_all_orders_there_and_back(self):
        for packet, pattern in CASES:
            size = (packet.width, packet.height)
            for orders, sheets in sheets_tried(packet, pattern):
                new = laid(packet, pattern, orders)
                self.assertEqual(new, Packet(*size, sheets))
                self.assertEqual(laid(new, pattern, undone(orders)), packet)

    def test_the_index_tells_from_which_sheet_a_piece_comes(self):
        packet = Packet(2, 1, ("ad", "be", "cf"))
        self.assertEqual(laid(packet, (0, 1), ((1, 2, 0), (0, 1, 2))).sheets, ("bd", "ce", "af"))

    def test_the_packet_and_the_orders_are_as_before(self):
        packet, orders = Packet(2, 1, ("ab", "cd")), ((1, 0), (0, 1))
        laid(packet, (0, 1), orders)
        self.fails("InvalidOrders", laid, packet, (0, 1), orders[:1])
        self.assertEqual(packet, Packet(2, 1, ("ab", "cd")))
        self.assertEqual(orders, ((1, 0), (0, 1)))

    def test_values_that_are_no_order(self):
        for wrong in [(), (0,), (0, 1, 2), (0, 0), (1, 1), (1, 2), (-1, 0), (False, True), (0, True), ("0", "1"),
                      (0, None), [0, 1], "01", None, 1, (0.0, 1.0), ((0,), (1,))]:
            with self.subTest(wrong=wrong):
                self.fails("InvalidOrders", laid, TWO, ROWS, (wrong, (1, 0)), index=0)
                self.fails("InvalidOrders", laid, TWO, ROWS, ((1, 0), wrong), index=1)

    def test_the_first_wrong_order_counts(self):
        packet, pattern = Packet(3, 1, ("abc", "def")), (0, 1, 2)
        self.fails("InvalidOrders", laid, packet, pattern, ((0, 1), (0, 0), (1, 1)), index=1)
        self.fails("InvalidOrders", laid, packet, pattern, ((1, 0), (1, 0), (1, 1)), index=2)
        self.fails("InvalidOrders", laid, packet, pattern, ((0, 1), (0, 0)), index=1)
        self.fails("InvalidOrders", laid, packet, pattern, ((0, 0), (0, 1), (0, 1), (0, 1)), index=0)

    def test_too_few_orders(self):
        packet, pattern = Packet(3, 1, ("abc", "def")), (0, 1, 2)
        for many in range(3):
            with self.subTest(many=many):
                self.fails("InvalidOrders", laid, packet, pattern, ((1, 0),) * many, index=many)

    def test_too_many_orders(self):
        self.fails("InvalidOrders", laid, TWO, ROWS, ((1, 0),) * 3, index=2)
        self.fails("InvalidOrders", laid, TWO, ROWS, ((1, 0),) * 5, index=2)
        self.fails("InvalidOrders", laid, TWO, (0, 0, 0, 0), ((1, 0), (1, 1)), index=1)

    def test_the_pattern_comes_before_the_orders(self):
        for pattern in NO_PATTERNS:
            with self.subTest(pattern=pattern):
                self.fails("InvalidPattern", laid, TWO, pattern, ((0, 1), (1, 0)))
                self.fails("InvalidPattern", laid, TWO, pattern, ())
                self.fails("InvalidPattern", laid, TWO, pattern, ((0, 0),))


class UndoneTest(SheetTest):

    def test_nothing(self):
        self.assertEqual(undone(()), ())

    def test_all_orders_of_up_to_four_sheets(self):
        for many in range(1, 5):
            for order in permutations(range(many)):
                (back,) = undone((order,))
                self.assertIs(type(back), tuple)
                self.assertEqual([order[index] for index in back], list(range(many)))
                self.assertEqual(undone((back, order)), (order, back))

    def test_values_that_are_no_order(self):
        for wrong in [(1,), (0, 0), (1, 2), (0, 2), (-1, 0), (False, True), (False,), (0, True), ("0",), (0, None),
                      [0, 1], "01", None, 1, (0.0, 1.0), ((0,), (1,))]:
            with self.subTest(wrong=wrong):
                self.fails("InvalidOrders", undone, (wrong,), index=0)
                self.fails("InvalidOrders", undone, (wrong, (0, 1)), index=0)
                self.fails("InvalidOrders", undone, ((1, 0), (0, 1), wrong), index=2)

    def test_longer_and_shorter_than_the_first_one(self):
        self.fails("InvalidOrders", undone, ((1, 0), (0, 1, 2)), index=1)
        self.fails("InvalidOrders", undone, ((1, 0), (0, 1), (0,)), index=2)
        self.fails("InvalidOrders", undone, ((1, 0), ()), index=1)
        self.fails("InvalidOrders", undone, ((0,), (1, 0), (0,)), index=1)

    def test_the_first_wrong_order_counts(self):
        self.fails("InvalidOrders", undone, ((1, 0), (0, 1, 2), (0, 0)), index=1)
        self.fails("InvalidOrders", undone, ((1, 1), (0, 1, 2)), index=0)

    def test_the_orders_are_as_before(self):
        orders = ((1, 2, 0), (0, 2, 1))
        self.assertEqual(undone(orders), ((2, 0, 1), (0, 2, 1)))
        self.assertEqual(orders, ((1, 2, 0), (0, 2, 1)))
        wrong = ([1, 0], [0, 1])
        self.fails("InvalidOrders", undone, wrong, index=0)
        self.assertEqual(wrong, ([1, 0], [0, 1]))


class CountsTest(SheetTest):

    def test_beside_all_orders_tried(self):
        for packet, pattern in CASES:
            with self.subTest(sheets=packet.sheets, pattern=pattern):
                sheets = [rows for _, rows in sheets_tried(packet, pattern)]
                self.assertEqual(packet_count(packet, pattern), len(set(sheets)))
                for index in range(len(packet)):
                    self.assertEqual(picture_count(packet, pattern), len({rows[index] for rows in sheets}))

    def test_large_ones(self):
        packet, cells = Packet(3, 3, ("abcdefghi", "bcdefghij", "cdefghijk", "defghijkl")), tuple(range(9))
        self.assertEqual(packet_count(packet, cells), 24 ** 9)
        self.assertEqual(picture_count(packet, cells), 4 ** 9)
        equal = Packet(3, 3, ("a" * 9, "b" * 9, "a" * 9, "b" * 9))
        self.assertEqual((packet_count(equal, cells), picture_count(equal, cells)), (6 ** 9, 2 ** 9))
        equal = Packet(3, 3, ("a" * 9,) * 4)
        self.assertEqual((packet_count(equal, cells), picture_count(equal, cells)), (1, 1))

    def test_invalid_patterns(self):
        for pattern in NO_PATTERNS:
            with self.subTest(pattern=pattern):
                self.fails("InvalidPattern", packet_count, TWO, pattern)
                self.fails("InvalidPattern", picture_count, TWO, pattern)


class PicturesTest(SheetTest):

    def test_beside_all_orders_tried(self):
        for packet, pattern in CASES:
            tried = sheets_tried(packet, pattern)
            first, least = {}, {}
            for orders, (top, *others) in tried:
                first.setdefault(top, orders)
                least[top] = min(least.get(top, tuple(others)), tuple(others))
            for picture in pictures_asked(packet, [rows for _, rows in tried]):
                with self.subTest(sheets=packet.sheets, pattern=pattern, picture=picture):
                    self.assertIs(can_show(packet, pattern, picture), picture in first)
                    self.assertEqual(orders_for(packet, pattern, picture), first.get(picture))
                    self.assertEqual(beside(packet, pattern, picture), least.get(picture))

    def test_one_sheet(self):
        packet = Packet(2, 2, ("abca",))
        self.assertEqual(orders_for(packet, ROWS, "abca"), ((0,), (0,)))
        self.assertEqual(beside(packet, ROWS, "abca"), ())
        self.assertIsNone(orders_for(packet, ROWS, "caab"))
        self.assertIsNone(beside(packet, ROWS, "caab"))

    def test_the_first_orders_are_not_always_those_with_the_first_sheets_beneath(self):
        packet = Packet(2, 1, ("ab", "cd", "ba"))
        self.assertEqual(orders_for(packet, (0, 1), "ab"), ((0, 1, 2), (0, 1, 2)))
        self.assertEqual(beside(packet, (0, 1), "ab"), ("ba", "cd"))

    def test_all_patterns_of_the_largest_size(self):
        packet = Packet(3, 3, ("abcdefghi", "abbbefihg", "dddefghia", "aaaaaaaaa"))
        for pattern in patterns_tried(3, 3)[::37]:
            picture = sheets_by(packet, pattern, [(3, 1, 2, 0), (1, 0, 3, 2), (2, 3, 1, 0)] * 3)[0]
            self.assertIs(can_show(packet, pattern, picture), True)
            self.assertIs(can_show(packet, pattern, "z" + picture[1:]), False)
            self.assertEqual(sheets_by(packet, pattern, orders_for(packet, pattern, picture))[0], picture)
            self.assertEqual(len(beside(packet, pattern, picture)), 3)

    def test_invalid_pictures(self):
        for call, picture in product([can_show, orders_for, beside], NO_PICTURES):
            with self.subTest(call=call.__name__, picture=picture):
                self.fails("InvalidPicture", call, TWO, ROWS, picture)

    def test_the_pattern_comes_before_the_picture(self):
        for call, pattern in product([can_show, orders_for, beside], NO_PATTERNS):
            with self.subTest(call=call.__name__, pattern=pattern):
                self.fails("InvalidPattern", call, TWO, pattern, "abab")
                self.fails("InvalidPattern", call, TWO, pattern, "?")

    def test_repeated_calls_are_equal_and_the_packet_is_as_before(self):
        packet = Packet(2, 2, ("bacb", "abca", "bbca"))
        for call in [can_show, orders_for, beside]:
            self.assertEqual(call(packet, ROWS, "abcb"), call(packet, ROWS, "abcb"))
        self.assertEqual(packet, Packet(2, 2, ("bacb", "abca", "bbca")))
