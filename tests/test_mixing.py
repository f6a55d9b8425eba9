"""Two packets, and sheets turned over: points 1, 19 and 20."""

from itertools import combinations, product

from sawnsheets.mixing import fewest_over, first_shared, merged, over, shared_count
from sawnsheets.packets import Packet
from tests.support import (NO_GOALS, NO_PATTERNS, SIZES, SheetTest, all_sheets, cuts_needed, letters_of,
                           patterns_tried)

TWO = Packet(2, 2, ("abab", "cccc"))
ROWS, COLUMNS, CELLS = (0, 0, 1, 1), (0, 1, 0, 1), (0, 1, 2, 3)
NINE_CELLS = tuple(range(9))
# Packets of like sizes, to be asked for what they share.
PAIRS = [
    (Packet(1, 1, ("a", "b", "c")), Packet(1, 1, ("c", "a"))),
    (Packet(2, 1, ("ab", "cd")), Packet(2, 1, ("ad", "bb"))),
    (Packet(2, 1, ("ab", "ba", "bb", "aa")), Packet(2, 1, ("ab",))),
    (Packet(1, 3, ("abc", "bca", "cab")), Packet(1, 3, ("aaa", "bbb", "ccc"))),
    (Packet(2, 2, ("abab", "bbaa", "bbba")), Packet(2, 2, ("aabb", "babb"))),
    (Packet(2, 2, ("abca", "cabc")), Packet(2, 2, ("aaaa", "bbbb", "cccc"))),
    (Packet(3, 2, ("abcabc", "cabbca")), Packet(3, 2, ("abcbca", "cabcab"))),
    (Packet(2, 3, ("aabbab", "bbabba")), Packet(2, 3, ("babbba", "ababab"))),
]
NO_INDEXES = [(2,), (-1,), (0, 2), (1, 0), (0, 0), (False,), (True,), (0, True), (None,), ("0",), (0.0,), [], [0], None,
              0, "", "0", ((0,),)]


def pictures_tried(packet, pattern):
    """Return all different pictures that a packet can show, by taking each piece of each sheet."""
    taken = product(packet.sheets, repeat=max(pattern) + 1)
    return {"".join(row[number][cell] for cell, number in enumerate(pattern)) for row in taken}


def over_tried(packet, indexes):
    """Return the sheets of a packet behind turning some over, cell by cell."""
    found = []
    for index, sheet in enumerate(packet.sheets):
        signs = [None] * packet.cells
        for cell in range(packet.cells):
            row, column = divmod(cell, packet.width)
            signs[row * packet.width + packet.width - 1 - column] = sheet[cell]
        found.append("".join(signs) if index in indexes else sheet)
    return tuple(found)


def subsets(many):
    """Return all ascending tuples of the first so many numbers, shorter ones first."""
    return [some for size in range(many + 1) for some in combinations(range(many), size)]


class ExamplesTest(SheetTest):

    def test_two_packets(self):
        self.check_example("""
>>> from sawnsheets.mixing import fewest_over, first_shared, merged, over, shared_count
>>> from sawnsheets.packets import Packet
>>> one = Packet(2, 1, ("ab", "cd"))
>>> other = Packet(2, 1, ("ad", "bb"))
>>> told = [merged(one, other).sheets, shared_count(one, (0, 1), other, (0, 1)), first_shared(one, (0, 1), other, (0, 1))]
>>> told + [over(one, (1,)).sheets, fewest_over(one, ("dc", "ab"))]
[('ab', 'cd', 'ad', 'bb'), 2, 'ab', ('ab', 'dc'), (1,)]
""")

    def test_unlike_sizes(self):
        self.check_example("""
>>> from sawnsheets.mixing import merged
>>> from sawnsheets.packets import Packet
>>> one = Packet(2, 1, ("ab", "cd"))
>>> merged(one, Packet(1, 2, ("ab",)))
raises UnlikeSizes()
""")


class MergedTest(SheetTest):

    def test_the_other_sheets_lie_beneath(self):
        one, other = Packet(2, 1, ("ab",)), Packet(2, 1, ("cd", "ab", "ef"))
        self.assertEqual(merged(one, other), Packet(2, 1, ("ab", "cd", "ab", "ef")))
        self.assertEqual(merged(other, one), Packet(2, 1, ("cd", "ab", "ef", "ab")))
        self.assertEqual(merged(one, one), Packet(2, 1, ("ab", "ab")))
        self.assertEqual((one.sheets, other.sheets), (("ab",), ("cd", "ab", "ef")))

    def test_four_sheets_and_more(self):
        for many, more in product(range(1, 5), repeat=2):
            one, other = Packet(1, 1, ("a",) * many), Packet(1, 1, ("b",) * more)
            if many + more <= 4:
                self.assertEqual(merged(one, other).sheets, ("a",) * many + ("b",) * more)
            else:
                self.fails("InvalidPacket", merged, one, other, part="sheets")

    def test_unlike_sizes(self):
        for one, other in product(SIZES, repeat=2):
            packets = [Packet(width, height, ("a" * (width * height),)) for width, height in (one, other)]
            if one == other:
                self.assertEqual(len(merged(*packets)), 2)
            else:
                self.fails("UnlikeSizes", merged, *packets)

    def test_unlike_sizes_come_before_too_many_sheets(self):
        self.fails("UnlikeSizes", merged, Packet(2, 1, ("ab",) * 4), Packet(1, 2, ("ab",) * 4))


class SharedTest(SheetTest):

    def check_shared(self, one, pattern, other, its_pattern):
        shared = pictures_tried(one, pattern) & pictures_tried(other, its_pattern)
        told = (one.sheets, pattern, other.sheets, its_pattern)
        self.assertEqual(shared_count(one, pattern, other, its_pattern), len(shared), told)
        self.assertEqual(first_shared(one, pattern, other, its_pattern), min(shared, default=None), told)

    def test_beside_all_pictures_tried(self):
        for one, other in PAIRS:
            known = patterns_tried(one.width, one.height)
            step = 1 if len(known) <= 12 else 7
            for pattern, its_pattern in product(known[::step], known[::step + 2]):
                self.check_shared(one, pattern, other, its_pattern)
                self.check_shared(other, pattern, one, its_pattern)

    def test_patterns_that_cross(self):
        one = Packet(3, 3, ("aaabbbccc", "bbbcccaaa", "cccaaabbb"))
        rows, columns = (0, 0, 0, 1, 1, 1, 2, 2, 2), (0, 1, 2, 0, 1, 2, 0, 1, 2)
        corner, ring = (0, 0, 1, 0, 0, 1, 1, 1, 1), (0, 0, 0, 0, 1, 0, 0, 0, 0)
        other = Packet(3, 3, ("abcabcabc", "aaaaaaaaa", "bcabcabca", "cccbbbaaa"))
        for pattern, its_pattern in product([rows, columns, corner, ring, NINE_CELLS, (0,) * 9], repeat=2):
            self.check_shared(one, pattern, other, its_pattern)
            self.check_shared(other, pattern, one, its_pattern)

    def test_all_single_cells(self):
        one = Packet(3, 3, ("aaaaaaaaa", "bbbbbbbbb", "ccccccccc", "ddddddddd"))
        other = Packet(3, 3, ("ddddddddd", "ccccccccc", "bbbbbbbbb", "zzzzzzzzz"))
        self.assertEqual(shared_count(one, NINE_CELLS, other, NINE_CELLS), 3 ** 9)
        self.assertEqual(first_shared(one, NINE_CELLS, other, NINE_CELLS), "b" * 9)
        self.assertEqual(shared_count(one, NINE_CELLS, one, NINE_CELLS), 4 ** 9)
        self.assertEqual(shared_count(one, NINE_CELLS, other, (0,) * 9), 3)

    def test_nothing_shared(self):
        one, other = Packet(2, 1, ("ab", "cd")), Packet(2, 1, ("ac", "xy", "zz"))
        self.assertEqual(shared_count(one, (0, 1), other, (0, 1)), 0)
        self.assertIsNone(first_shared(one, (0, 1), other, (0, 1)))
        # Each cell alone would do, but not both.
        self.assertIsNone(first_shared(one, (0, 0), Packet(2, 1, ("ad",)), (0, 1)))

    def test_values_that_are_no_pattern(self):
        for call, wrong in product([shared_count, first_shared], NO_PATTERNS):
            with self.subTest(call=call.__name__, wrong=wrong):
                self.fails("InvalidPattern", call, TWO, wrong, TWO, ROWS)
                self.fails("InvalidPattern", call, TWO, ROWS, TWO, wrong)

    def test_each_pattern_belongs_to_its_own_packet(self):
        tall = Packet(1, 4, ("abab",))
        for call in [shared_count, first_shared]:
            self.fails("InvalidPattern", call, TWO, COLUMNS, tall, COLUMNS)
            self.fails("InvalidPattern", call, TWO, CELLS + (4,), tall, CELLS)
            # Both are patterns for the packet that they come with.
            self.fails("UnlikeSizes", call, TWO, COLUMNS, tall, CELLS)
            self.fails("UnlikeSizes", call, Packet(2, 1, ("ab",)), (0, 1), Packet(1, 2, ("ab",)), (0, 1))


class OverTest(SheetTest):

    def test_beside_turning_cell_by_cell(self):
        letters = "abcdefghijklmnopqrstuvwxyzabcdefghij"
        for (width, height), many in product(SIZES, range(1, 5)):
            cells = width * height
            packet = Packet(width, height, tuple(letters[cells * k:cells * (k + 1)] for k in range(many)))
            for indexes in subsets(many):
                new = over(packet, indexes)
                self.assertEqual(new, Packet(width, height, over_tried(packet, indexes)))
                self.assertEqual(over(new, indexes), packet)

    def test_rows_stay_where_they_are(self):
        self.assertEqual(over(Packet(3, 2, ("abcdef", "ghijkl")), (0,)).sheets, ("cbafed", "ghijkl"))

    def test_invalid_indexes(self):
        for indexes in NO_INDEXES:
            with self.subTest(indexes=indexes):
                self.fails("InvalidIndexes", over, TWO, indexes)
        self.fails("InvalidIndexes", over, Packet(1, 1, ("a",)), (1,))
        self.fails("InvalidIndexes", over, Packet(1, 1, ("a",) * 4), (0, 1, 2, 3, 4))
        self.fails("InvalidIndexes", over, Packet(1, 1, ("a",) * 4), (0, 2, 1))


class FewestOverTest(SheetTest):

    def test_beside_everything_tried(self):
        for packet in [Packet(2, 1, ("ab", "cd")), Packet(2, 1, ("ab", "ba", "ac")), Packet(1, 2, ("ab", "ba")),
                       Packet(3, 1, ("abb", "bab")), Packet(2, 2, ("aabb", "abab")), Packet(1, 1, ("a", "b"))]:
            all_cells = [tuple(range(packet.cells))]
            wanted = {}
            for indexes in subsets(len(packet)):
                turned = Packet(packet.width, packet.height, over_tried(packet, indexes))
                for sheets in cuts_needed(turned, all_cells):
                    wanted.setdefault(sheets, indexes)
            for goals in all_sheets(packet, letters_of(packet)):
                self.assertEqual(fewest_over(packet, goals), wanted.get(goals), (packet.sheets, goals))

    def test_none_some_and_all(self):
        packet = Packet(3, 1, ("abc", "def", "ghi", "jkl"))
        self.assertEqual(fewest_over(packet, ("def", "abc", "jkl", "ghi")), ())
        self.assertEqual(fewest_over(packet, ("abc", "fed", "ghi", "lkj")), (1, 3))
        self.assertEqual(fewest_over(packet, ("lkj", "ihg", "fed", "cba")), (0, 1, 2, 3))
        self.assertEqual(fewest_over(packet, ("lec", "abi", "dhf", "gkj")), (3,))
        self.assertIsNone(fewest_over(packet, ("abc", "def", "ghi", "jkm")))

    def test_the_first_of_several(self):
        self.assertEqual(fewest_over(Packet(2, 1, ("ab", "ab", "cc")), ("ab", "ba", "cc")), (0,))
        self.assertEqual(fewest_over(Packet(2, 1, ("cc", "ab", "ab")), ("ab", "ba", "cc")), (1,))
        self.assertEqual(fewest_over(Packet(2, 1, ("ab",) * 4), ("ba", "ab", "ba", "ab")), (0, 1))

    def test_invalid_goals(self):
        for goals in NO_GOALS:
            with self.subTest(goals=goals):
                self.fails("InvalidGoals", fewest_over, TWO, goals)


class NothingIsKeptTest(SheetTest):

    def test_repeated_calls_are_equal_and_packets_are_as_before(self):
        one, other = Packet(2, 1, ("ab", "cd")), Packet(2, 1, ("ad", "bb"))
        for call, given in [(merged, (one, other)), (shared_count, (one, (0, 1), other, (0, 0))), (over, (one, (0,))),
                            (first_shared, (one, (0, 1), other, (0, 0))), (fewest_over, (one, ("dc", "ab")))]:
            self.assertEqual(call(*given), call(*given))
        self.fails("InvalidIndexes", over, one, (0, 0))
        self.assertEqual((one, other), (Packet(2, 1, ("ab", "cd")), Packet(2, 1, ("ad", "bb"))))
