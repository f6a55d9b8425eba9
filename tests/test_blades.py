"""Blades that wear: points 1, 17 and 18."""

from itertools import combinations_with_replacement, permutations, product

from sawnsheets.blades import best_row, blades, packet_of
from sawnsheets.packets import Packet
from tests.support import NO_PATTERNS, SheetTest, patterns_tried, saw_length_tried

TWO = Packet(2, 2, ("abab", "cccc"))
NINE = Packet(3, 3, ("abcdefghi",))
WHOLE, ROWS, COLUMNS, CELLS = (0, 0, 0, 0), (0, 0, 1, 1), (0, 1, 0, 1), (0, 1, 2, 3)
NINE_CELLS = tuple(range(9))
# Patterns of 3 x 3 cells of each length that there is.
BY_LENGTH = {saw_length_tried(3, 3, pattern): pattern for pattern in patterns_tried(3, 3)}
SOME_LENGTHS = [0, 2, 3, 4, 5, 7, 8, 12]
NO_NUMBERS = [True, False, None, "1", 1.0, (1,)]
CALLS = [(blades, 3), (packet_of, 3), (best_row, 3)]


def row_of(lengths):
    """Return a row of patterns of 3 x 3 cells with some lengths."""
    return tuple(BY_LENGTH[length] for length in lengths)


def rows_tried(many):
    """Return all ascending tuples of so many of some lengths."""
    return list(combinations_with_replacement(SOME_LENGTHS, many))


def sawn_one_by_one(lengths, life, count):
    """Return for each packet the number of its blade, and what this one has left behind the packet."""
    found, blade, left = [], -1, None
    for packet in range(count):
        length = lengths[packet % len(lengths)]
        if left is None or left < length:
            blade, left = blade + 1, life
        left -= length
        found.append((blade, left))
    return found


def sawn_by_doubling(lengths, life, count):
    """Return how many blades are taken and what is left, by twice as many rounds again and again."""
    def one_round(left):
        taken = 0
        for length in lengths:
            if left is None or left < length:
                taken, left = taken + 1, life
            left -= length
        return taken, left

    rounds, rest = divmod(count, len(lengths))
    table = {left: one_round(left) for left in [None, *range(life + 1)]}
    taken, left = 0, None
    while rounds:
        if rounds % 2:
            taken, left = taken + table[left][0], table[left][1]
        table = {start: (some + table[middle][0], table[middle][1]) for start, (some, middle) in table.items()}
        rounds //= 2
    for length in lengths[:rest]:
        if left is None or left < length:
            taken, left = taken + 1, life
        left -= length
    return taken, left


class ExamplesTest(SheetTest):

    def test_blades_that_wear(self):
        self.check_example("""
>>> from sawnsheets.blades import best_row, blades, packet_of
>>> from sawnsheets.packets import Packet
>>> packet, row = Packet(2, 2, ("abab", "cdcd")), ((0, 1, 0, 1), (0, 1, 2, 3))
>>> told = [blades(packet, row, 6, 3), blades(packet, row, 6, 10 ** 18), packet_of(packet, row, 6, 7)]
>>> told + [best_row(packet, row, 6, 3)]
[(2, 4), (500000000000000000, 0), 14, (2, ((0, 1, 0, 1), (0, 1, 2, 3)))]
""")

    def test_a_life_that_is_too_short(self):
        self.check_example("""
>>> from sawnsheets.blades import blades
>>> from sawnsheets.packets import Packet
>>> blades(Packet(2, 2, ("abab",)), ((0, 1, 2, 3),), 3, 1)
raises TooShort(index=0)
""")


class BladesTest(SheetTest):

    def test_beside_packets_sawn_one_by_one(self):
        for many in range(1, 4):
            for lengths in rows_tried(many):
                for life in (12, 13, 17, 30, 99):
                    told = sawn_one_by_one(lengths, life, 45)
                    for count in (1, 2, 3, 4, 5, 11, 44, 45):
                        blade, left = told[count - 1]
                        found = blades(NINE, row_of(lengths), life, count)
                        self.assertEqual(found, (blade + 1, left), (lengths, life, count))

    def test_unordered_rows_of_four_and_five(self):
        for lengths in [(12, 0, 3, 7), (5, 2, 12, 2), (0, 0, 0, 2), (3, 12, 5, 7, 2), (2, 0, 12, 0, 8), (12,) * 5]:
            for life in range(12, 100):
                told = sawn_one_by_one(lengths, life, 700)
                for count in (1, 7, 99, 433, 700):
                    blade, left = told[count - 1]
                    found = blades(NINE, row_of(lengths), life, count)
                    self.assertEqual(found, (blade + 1, left), (lengths, life, count))

    def test_large_counts_beside_doubling(self):
        for lengths in [*rows_tried(1), *rows_tried(2)[::3], *rows_tried(3)[::7], (7, 2, 12, 3), (5, 7, 2, 8, 3)]:
            for life in (12, 13, 50, 97, 99):
                for count in (10 ** 18, 10 ** 18 - 1, 10 ** 15 + 7, 123456789012345678):
                    wanted = sawn_by_doubling(lengths, life, count)
                    self.assertEqual(blades(NINE, row_of(lengths), life, count), wanted, (lengths, life, count))

    def test_no_packets(self):
        self.assertEqual(blades(TWO, (CELLS,), 99, 0), (0, 0))
        self.assertEqual(blades(TWO, (WHOLE,), 1, 0), (0, 0))

    def test_a_packet_that_is_sawn_nowhere_takes_the_first_blade_too(self):
        self.assertEqual(blades(TWO, (WHOLE,), 7, 1), (1, 7))
        self.assertEqual(blades(TWO, (WHOLE,), 1, 10 ** 18), (1, 1))
        self.assertEqual(blades(TWO, (WHOLE, ROWS), 2, 2), (1, 0))
        self.assertEqual(blades(TWO, (ROWS, WHOLE), 2, 2), (1, 0))

    def test_lives_of_1_and_99(self):
        packet, row = Packet(2, 1, ("ab",)), ((0, 1),)
        self.assertEqual(blades(packet, row, 1, 5), (5, 0))
        self.assertEqual(blades(packet, row, 1, 10 ** 18), (10 ** 18, 0))
        self.assertEqual(blades(packet, row, 99, 99), (1, 0))
        self.assertEqual(blades(packet, row, 99, 100), (2, 98))
        self.assertEqual(blades(NINE, (NINE_CELLS,), 99, 8), (1, 3))
        self.assertEqual(blades(NINE, (NINE_CELLS,), 99, 9), (2, 87))

    def test_what_is_left_is_not_used_for_a_part_of_a_packet(self):
        self.assertEqual(blades(TWO, (CELLS,), 7, 2), (2, 3))
        self.assertEqual(blades(TWO, (CELLS, ROWS), 7, 2), (1, 1))

    def test_a_length_of_all_of_a_life(self):
        self.assertEqual(blades(TWO, (CELLS,), 4, 3), (3, 0))
        self.assertEqual(blades(TWO, (ROWS, CELLS), 4, 2), (2, 0))


class PacketOfTest(SheetTest):

    def test_beside_packets_sawn_one_by_one(self):
        for many in range(1, 4):
            for lengths in rows_tried(many)[::2]:
                for life in (12, 19, 40):
                    told = [blade for blade, _ in sawn_one_by_one(lengths, life, 60)]
                    for blade in range(max(told) + 1):
                        found = packet_of(NINE, row_of(lengths), life, blade)
                        self.assertEqual(found, told.index(blade), (lengths, life, blade))

    def test_the_first_blade(self):
        self.assertEqual(packet_of(TWO, (CELLS,), 4, 0), 0)
        self.assertEqual(packet_of(TWO, (WHOLE,), 1, 0), 0)

    def test_a_blade_that_there_never_is(self):
        self.assertIsNone(packet_of(TWO, (WHOLE,), 1, 1))
        self.assertIsNone(packet_of(TWO, (WHOLE, WHOLE), 99, 10 ** 15))

    def test_large_numbers(self):
        packet = Packet(2, 1, ("ab",))
        self.assertEqual(packet_of(packet, ((0, 1),), 99, 10 ** 15), 99 * 10 ** 15)
        self.assertEqual(packet_of(packet, ((0, 1),), 1, 10 ** 15), 10 ** 15)
        # The longest time for which a blade can last: one side in each round of five packets.
        row = ((0, 0), (0, 0), (0, 1), (0, 0), (0, 0))
        self.assertEqual(packet_of(packet, row, 99, 10 ** 15), 495 * 10 ** 15 + 2)
        for lengths, life in [((12, 5, 0, 7), 31), ((2, 3, 5, 7, 8), 99), ((0, 4, 0), 97)]:
            for blade in (10 ** 15, 10 ** 15 - 1, 987654321012345):
                found = packet_of(NINE, row_of(lengths), life, blade)
                # The blade is not there before this packet, and is there for it.
                self.assertEqual(sawn_by_doubling(lengths, life, found)[0], blade)
                self.assertEqual(sawn_by_doubling(lengths, life, found + 1)[0], blade + 1)


class BestRowTest(SheetTest):

    def best_tried(self, lengths, life, count):
        """Return the fewest blades and the first row, by sawing packets in all orders."""
        found = []
        for order in permutations(lengths):
            told = sawn_one_by_one(order, life, count)
            found.append((told[-1][0] + 1 if told else 0, row_of(order)))
        return min(found)

    def test_beside_all_orders_tried(self):
        for lengths in [*rows_tried(1), *rows_tried(2), *rows_tried(3)[::3], (12, 7, 5, 3), (8, 2, 2, 7)]:
            for life in (12, 15, 20):
                for count in (0, 1, 2, 4, 9):
                    wanted = self.best_tried(lengths, life, count)
                    self.assertEqual(best_row(NINE, row_of(lengths), life, count), wanted, (lengths, life, count))

    def test_rows_of_five(self):
        for lengths in [(2, 3, 5, 7, 12), (12, 12, 0, 4, 8)]:
            self.assertEqual(best_row(NINE, row_of(lengths), 15, 33), self.best_tried(lengths, 15, 33))

    def test_another_order_than_the_given_one(self):
        # As given, the first packet alone would use up a blade.
        self.assertEqual(best_row(TWO, (CELLS, ROWS, ROWS), 4, 2), (1, (ROWS, ROWS, CELLS)))

    def test_equal_patterns(self):
        self.assertEqual(best_row(TWO, (ROWS, ROWS), 2, 3), (3, (ROWS, ROWS)))

    def test_the_first_in_tuple_order(self):
        self.assertEqual(best_row(TWO, (COLUMNS, ROWS), 99, 2), (1, (ROWS, COLUMNS)))
        self.assertEqual(best_row(TWO, (CELLS, COLUMNS, WHOLE, ROWS), 5, 0), (0, (WHOLE, ROWS, COLUMNS, CELLS)))

    def test_a_large_count(self):
        lengths = (12, 7, 5, 3, 2)
        wanted = min((sawn_by_doubling(order, 20, 10 ** 18)[0], row_of(order)) for order in permutations(lengths))
        self.assertEqual(best_row(NINE, row_of(lengths), 20, 10 ** 18), wanted)


class ErrorsTest(SheetTest):

    def test_values_that_are_no_pattern(self):
        for (call, count), wrong in product(CALLS, [*NO_PATTERNS, (0, 2, 1, 3), NINE_CELLS, ()]):
            with self.subTest(call=call.__name__, wrong=wrong):
                self.fails("InvalidRow", call, TWO, (wrong,), 99, count, index=0)
                self.fails("InvalidRow", call, TWO, (ROWS, ROWS, wrong, wrong), 99, count, index=2)

    def test_empty_rows_and_rows_of_six(self):
        for call, count in CALLS:
            self.fails("InvalidRow", call, TWO, (), 99, count, index=0)
            self.fails("InvalidRow", call, TWO, (ROWS,) * 6, 99, count, index=5)
            self.fails("InvalidRow", call, TWO, (ROWS,) * 8, 99, count, index=5)
            self.fails("InvalidRow", call, TWO, (ROWS,) * 5 + (None,), 99, count, index=5)
            self.fails("InvalidRow", call, TWO, (ROWS,) * 4 + (None, ROWS), 99, count, index=4)

    def test_lives_out_of_range(self):
        for (call, count), life in product(CALLS, [0, -1, 100, 10 ** 20, *NO_NUMBERS]):
            with self.subTest(call=call.__name__, life=life):
                self.fails("InvalidNumber", call, TWO, (ROWS,), life, count)

    def test_patterns_that_are_longer_than_a_life(self):
        for call, count in CALLS:
            self.fails("TooShort", call, TWO, (ROWS,), 1, count, index=0)
            self.fails("TooShort", call, TWO, (WHOLE, ROWS, CELLS, CELLS), 3, count, index=2)
            self.fails("TooShort", call, NINE, (NINE_CELLS,), 11, count, index=0)
            self.fails("TooShort", call, TWO, (CELLS, ROWS), 3, 0, index=0)

    def test_counts_out_of_range(self):
        for call, count in product([blades, best_row], [-1, 10 ** 18 + 1, *NO_NUMBERS]):
            with self.subTest(call=call.__name__, count=count):
                self.fails("InvalidNumber", call, TWO, (ROWS,), 2, count)

    def test_blades_out_of_range(self):
        for blade in [-1, 10 ** 15 + 1, *NO_NUMBERS]:
            with self.subTest(blade=blade):
                self.fails("InvalidNumber", packet_of, TWO, (ROWS,), 2, blade)
                self.fails("InvalidNumber", packet_of, TWO, (WHOLE,), 2, blade)

    def test_several_wrong_at_once(self):
        for call, _ in CALLS:
            self.fails("InvalidRow", call, TWO, (CELLS, None), 0, -1, index=1)
            self.fails("InvalidRow", call, TWO, (CELLS, None), 1, -1, index=1)
            self.fails("InvalidNumber", call, TWO, (CELLS,), 0, 1)
            self.fails("InvalidNumber", call, TWO, (CELLS,), 0, -1)
            self.fails("TooShort", call, TWO, (CELLS,), 1, -1, index=0)


class NothingIsKeptTest(SheetTest):

    def test_repeated_calls_are_equal_and_arguments_are_as_before(self):
        row = (CELLS, ROWS, WHOLE)
        for call, count in CALLS:
            self.assertEqual(call(TWO, row, 5, count), call(TWO, row, 5, count))
        self.fails("TooShort", best_row, TWO, row, 3, 1, index=0)
        self.assertEqual(row, (CELLS, ROWS, WHOLE))
        self.assertEqual(TWO, Packet(2, 2, ("abab", "cccc")))
