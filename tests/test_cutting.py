"""Cuts one after another: points 1, 21 and 22."""

from itertools import combinations, product

from sawnsheets.cutting import can_reach, reached_count, shortest_row
from sawnsheets.packets import Packet
from tests.support import (NO_GOALS, NO_PATTERNS, SheetTest, all_sheets, letters_of, patterns_tried, sheets_by_cut)

TWO = Packet(2, 2, ("abab", "cccc"))
WHOLE, ROWS, COLUMNS, CELLS = (0, 0, 0, 0), (0, 0, 1, 1), (0, 1, 0, 1), (0, 1, 2, 3)
NINE_CELLS = tuple(range(9))
FOUR = Packet(2, 2, ("abcd", "efgh", "ijkl", "mnop"))
SMALL = [
    Packet(1, 1, ("a",)), Packet(1, 1, ("b", "a", "b", "a")), Packet(2, 1, ("ab", "cd")),
    Packet(2, 1, ("ba", "ab", "bb")), Packet(1, 3, ("abc", "cba")), Packet(3, 1, ("aba", "cbc", "aaa")),
    Packet(2, 2, ("abab", "cccc")), Packet(2, 2, ("abcd", "badc")), Packet(2, 2, ("abca",)),
]
# Of each of these there are so many behind the last pattern; the second one is just too many.
NEARLY_TOO_MANY = (Packet(2, 3, ("adbaba", "cdbdab", "abdcbd")), ((0, 0, 0, 1, 2, 1), (0, 0, 1, 0, 2, 2)), 1944)
JUST_TOO_MANY = (Packet(2, 3, ("bbbbba", "abbbab", "babaaa", "babbbb")), ((0, 0, 1, 1, 1, 1), (0, 1, 0, 1, 0, 0)), 2016)


def reached_tried(packet, row):
    """Return all sheets that a packet can have behind a row, by laying all known ones in all orders."""
    known = {packet.sheets}
    for pattern in row:
        known = {new for sheets in known for new in sheets_by_cut(Packet(packet.width, packet.height, sheets), pattern)}
    return known


def rows_tried(packet):
    """Return some rows of up to three patterns for a packet."""
    known = patterns_tried(packet.width, packet.height)
    return [row for many in (1, 2, 3) for row in list(product(known[:9], repeat=many))[::many * many]]


def shortest_tried(packet, goals, row):
    """Return the first of the shortest indexes by which sheets are reached, or None."""
    for many in range(len(row) + 1):
        for indexes in combinations(range(len(row)), many):
            if goals in reached_tried(packet, [row[index] for index in indexes]):
                return indexes
    return None


class ExamplesTest(SheetTest):

    def test_cuts_one_after_another(self):
        self.check_example("""
>>> from sawnsheets.cutting import can_reach, reached_count, shortest_row
>>> from sawnsheets.packets import Packet
>>> one = Packet(2, 1, ("ab", "cd"))
>>> row = ((0, 0), (0, 1))
>>> [reached_count(one, row), can_reach(one, row[:1], ("cd", "ab")), shortest_row(one, ("ad", "cb"), row)]
[4, True, (1,)]
""")

    def test_an_empty_row(self):
        self.check_example("""
>>> from sawnsheets.cutting import reached_count
>>> from sawnsheets.packets import Packet
>>> one = Packet(2, 1, ("ab", "cd"))
>>> reached_count(one, ())
raises InvalidRow(index=0)
""")


class ReachedTest(SheetTest):

    def test_beside_all_orders_tried(self):
        for packet in SMALL:
            for row in rows_tried(packet):
                wanted = reached_tried(packet, row)
                self.assertEqual(reached_count(packet, row), len(wanted), (packet.sheets, row))
                if packet.cells < 4 or row[0] == row[-1]:
                    asked = all_sheets(packet, letters_of(packet))
                    for goals in asked[::len(asked) // 60 + 1] + sorted(wanted)[:20]:
                        self.assertIs(can_reach(packet, row, goals), goals in wanted, (packet.sheets, row, goals))

    def test_one_pattern_behind_another(self):
        packet = Packet(2, 2, ("abcd", "efgh"))
        goals = ("abch", "efgd")
        self.assertEqual(reached_count(packet, (ROWS,)), 4)
        self.assertEqual(reached_count(packet, (ROWS, COLUMNS)), 8)
        self.assertEqual(reached_count(packet, (CELLS,)), 16)
        self.assertFalse(can_reach(packet, (ROWS, COLUMNS), goals))
        self.assertTrue(can_reach(packet, (ROWS, COLUMNS), ("afgd", "ebch")))
        self.assertTrue(can_reach(packet, (CELLS,), goals))

    def test_the_order_of_patterns_may_matter(self):
        packet = Packet(2, 2, ("abcd", "efgh", "ijkl"))
        there, back = reached_tried(packet, (ROWS, COLUMNS)), reached_tried(packet, (COLUMNS, ROWS))
        self.assertNotEqual(there, back)
        for goals in sorted(there ^ back)[::9]:
            self.assertIs(can_reach(packet, (ROWS, COLUMNS), goals), goals in there)
            self.assertIs(can_reach(packet, (COLUMNS, ROWS), goals), goals in back)
            wanted = (0, 1) if goals in there else (1, 2)
            self.assertEqual(shortest_row(packet, goals, (ROWS, COLUMNS, ROWS)), wanted)

    def test_rows_of_five(self):
        packet = Packet(2, 2, ("abcd", "efgh"))
        self.assertEqual(reached_count(packet, (ROWS, COLUMNS, ROWS, WHOLE, COLUMNS)), 8)
        self.assertEqual(reached_count(packet, (WHOLE,) * 5), 2)

    def test_sheets_in_this_order(self):
        packet = Packet(2, 1, ("ab", "cd", "ef"))
        self.assertEqual(reached_count(packet, ((0, 0),)), 6)
        self.assertTrue(can_reach(packet, ((0, 0),), ("ef", "ab", "cd")))
        self.assertFalse(can_reach(packet, ((0, 0),), ("ef", "ad", "cb")))


class ShortestRowTest(SheetTest):

    def test_beside_everything_tried(self):
        for packet in [Packet(2, 1, ("ab", "cd")), Packet(3, 1, ("abc", "cab")), Packet(1, 3, ("aab", "bba"))]:
            for row in rows_tried(packet):
                for goals in all_sheets(packet, letters_of(packet))[::23]:
                    wanted = shortest_tried(packet, goals, row)
                    self.assertEqual(shortest_row(packet, goals, row), wanted, (packet.sheets, goals, row))

    def test_all_that_can_be_reached(self):
        packet = Packet(2, 2, ("abcd", "efgh"))
        for row in [(ROWS, COLUMNS), (COLUMNS, WHOLE, ROWS), (WHOLE, ROWS, COLUMNS, CELLS), (WHOLE, COLUMNS, CELLS)]:
            for goals in reached_tried(packet, (CELLS,)):
                self.assertEqual(shortest_row(packet, goals, row), shortest_tried(packet, goals, row))

    def test_no_pattern_is_needed(self):
        self.assertEqual(shortest_row(TWO, TWO.sheets, (CELLS,)), ())
        self.assertEqual(shortest_row(FOUR, FOUR.sheets, (CELLS,)), ())

    def test_the_first_of_several(self):
        packet = Packet(2, 1, ("ab", "cd"))
        self.assertEqual(shortest_row(packet, ("cd", "ab"), ((0, 1), (0, 0))), (0,))
        self.assertEqual(shortest_row(packet, ("cb", "ad"), ((0, 0), (0, 1), (0, 1))), (1,))

    def test_shorter_ones_come_first(self):
        packet = Packet(2, 2, ("abcd", "efgh"))
        goals = ("afgd", "ebch")
        self.assertEqual(shortest_row(packet, goals, (ROWS, COLUMNS)), (0, 1))
        self.assertEqual(shortest_row(packet, goals, (ROWS, COLUMNS, CELLS)), (2,))
        self.assertEqual(shortest_row(packet, goals, (WHOLE, COLUMNS, COLUMNS, WHOLE, ROWS)), (1, 4))

    def test_none(self):
        packet = Packet(2, 2, ("abcd", "efgh"))
        self.assertIsNone(shortest_row(packet, ("abch", "efgd"), (ROWS, COLUMNS, WHOLE)))
        self.assertIsNone(shortest_row(packet, ("zzzz", "efgd"), (ROWS, COLUMNS, CELLS)))


class TooManyTest(SheetTest):

    def test_nearly_and_just_too_many(self):
        packet, row, many = NEARLY_TOO_MANY
        self.assertEqual(len(reached_tried(packet, row)), many)
        self.assertEqual(reached_count(packet, row), many)
        packet, row, many = JUST_TOO_MANY
        self.assertEqual(len(reached_tried(packet, row)), many)
        self.fails("TooMany", reached_count, packet, row)
        self.fails("TooMany", can_reach, packet, row, packet.sheets)
        self.fails("TooMany", can_reach, packet, row, ("z" * 6,) * 4)

    def test_the_largest_packets(self):
        packet = Packet(3, 3, ("abcdefghi", "bcdefghij", "cdefghijk", "defghijkl"))
        self.fails("TooMany", reached_count, packet, (NINE_CELLS,))
        self.fails("TooMany", can_reach, packet, (NINE_CELLS,), packet.sheets)
        self.assertEqual(reached_count(packet, ((0,) * 9,)), 24)
        self.assertEqual(reached_count(Packet(3, 3, ("a" * 9, "b" * 9)), (NINE_CELLS,)), 512)
        self.assertEqual(reached_count(Packet(3, 3, ("a" * 9,) * 4), (NINE_CELLS,) * 5), 1)

    def test_behind_any_pattern_of_the_row(self):
        for row in [(CELLS,), (CELLS, WHOLE), (WHOLE, CELLS, ROWS), (ROWS, COLUMNS)]:
            self.fails("TooMany", reached_count, FOUR, row)
            self.fails("TooMany", can_reach, FOUR, row, FOUR.sheets)
        self.assertEqual(reached_count(FOUR, (ROWS,)), 576)

    def test_only_tuples_that_are_looked_at_count(self):
        goals = ("efgh", "abcd", "ijkl", "mnop")
        self.assertEqual(shortest_row(FOUR, goals, (WHOLE, CELLS)), (0,))
        self.fails("TooMany", shortest_row, FOUR, goals, (CELLS, WHOLE))
        # Alone each of them is good, but then both together are looked at.
        self.fails("TooMany", shortest_row, FOUR, ("abch", "efgd", "ijkl", "mnop"), (ROWS, COLUMNS))
        self.fails("TooMany", shortest_row, FOUR, ("zzzz",) * 4, (WHOLE, ROWS, CELLS))
        self.assertIsNone(shortest_row(FOUR, ("zzzz",) * 4, (WHOLE, ROWS)))


class ErrorsTest(SheetTest):

    def calls(self, row):
        """Return calls with a row, each as a function and its arguments."""
        return [(reached_count, TWO, row), (can_reach, TWO, row, TWO.sheets), (shortest_row, TWO, TWO.sheets, row)]

    def test_values_that_are_no_pattern(self):
        for wrong in [*NO_PATTERNS, NINE_CELLS, ()]:
            with self.subTest(wrong=wrong):
                for call in self.calls((wrong,)):
                    self.fails("InvalidRow", *call, index=0)
                for call in self.calls((ROWS, COLUMNS, wrong, wrong)):
                    self.fails("InvalidRow", *call, index=2)

    def test_empty_rows_and_rows_of_six(self):
        for call in self.calls(()):
            self.fails("InvalidRow", *call, index=0)
        for call in self.calls((ROWS,) * 6) + self.calls((ROWS,) * 5 + (None,)):
            self.fails("InvalidRow", *call, index=5)
        for call in self.calls((ROWS,) * 3 + (None,) * 4):
            self.fails("InvalidRow", *call, index=3)

    def test_invalid_goals(self):
        for goals in NO_GOALS:
            with self.subTest(goals=goals):
                self.fails("InvalidGoals", can_reach, TWO, (ROWS,), goals)
                self.fails("InvalidGoals", shortest_row, TWO, goals, (ROWS,))

    def test_several_wrong_at_once(self):
        self.fails("InvalidRow", can_reach, TWO, (ROWS, None), ("abab",), index=1)
        self.fails("InvalidGoals", shortest_row, TWO, ("abab",), (ROWS, None))
        self.fails("InvalidRow", reached_count, FOUR, (CELLS, None), index=1)
        self.fails("InvalidGoals", can_reach, FOUR, (CELLS,), ("abcd",))
        self.fails("InvalidGoals", shortest_row, FOUR, ("abcd",), (CELLS,))
        self.fails("InvalidRow", shortest_row, FOUR, ("zzzz",) * 4, (CELLS, None), index=1)


class NothingIsKeptTest(SheetTest):

    def test_repeated_calls_are_equal_and_arguments_are_as_before(self):
        row, goals = (ROWS, COLUMNS), ("abcc", "ccab")
        for call, given in [(reached_count, (TWO, row)), (can_reach, (TWO, row, goals)),
                            (shortest_row, (TWO, goals, row))]:
            self.assertEqual(call(*given), call(*given))
        self.assertEqual((row, goals), ((ROWS, COLUMNS), ("abcc", "ccab")))
        self.assertEqual(TWO, Packet(2, 2, ("abab", "cccc")))
