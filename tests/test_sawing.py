"""The least sawing: points 1, 8 and 9."""

from itertools import product

from sawnsheets.laying import can_show
from sawnsheets.packets import Packet
from sawnsheets.sawing import fewest_cuts, least_for_all, least_saw
from tests.support import (NO_GOALS, NO_PICTURES, SheetTest, all_sheets, cuts_needed, letters_of, neighbours,
                           patterns_tried, saw_length_tried, sheets_by_cut)

# Among them one sheet, one cell, equal sheets, equal pieces on unlike sheets, and up to four sheets.
PACKETS = [
    Packet(1, 1, ("a",)), Packet(1, 1, ("b", "a", "c")), Packet(2, 1, ("ab", "cd")), Packet(1, 2, ("ba", "ab", "bb")),
    Packet(1, 2, ("zy", "yz", "zy", "xy")), Packet(3, 1, ("aba", "cbc")), Packet(1, 3, ("abc", "cba", "aba")),
    Packet(2, 2, ("abab", "cccc")), Packet(2, 2, ("abca",)), Packet(2, 2, ("bacb", "abca", "bbca")),
    Packet(2, 2, ("aaaa", "bbbb")), Packet(4, 1, ("abba", "baab")), Packet(3, 2, ("abcabc", "cabbca")),
]
# These are small enough to try all layings again and again.
SMALL_PACKETS = [
    Packet(1, 1, ("a", "b", "c")), Packet(2, 1, ("ab", "cd")), Packet(1, 2, ("ab", "cd", "ef")),
    Packet(2, 2, ("abcd",)), Packet(3, 1, ("abc", "bca", "cab")), Packet(1, 3, ("aab", "aab")),
    Packet(4, 1, ("abcd", "efgh")), Packet(1, 4, ("abcd", "efgh")), Packet(2, 2, ("abcd", "efgh")),
    Packet(2, 2, ("abab", "bbaa", "bbba")),
]
TWO = Packet(2, 2, ("abab", "cccc"))
PLAIN = Packet(3, 3, ("a" * 9, "b" * 9, "c" * 9, "d" * 9))
SIX_CELLS_GOALS = ("a" * 6, "b" * 6)
SIX_CELLS = Packet(3, 2, SIX_CELLS_GOALS)
FOUR_SHEETS = Packet(2, 2, ("aaaa", "bbbb", "cccc", "dddd"))


def least_tried(packet):
    """Return dicts from all pictures, and from all sheets, to the least length and its first pattern."""
    pictures, rows = {}, {}
    for pattern in patterns_tried(packet.width, packet.height):
        found = (saw_length_tried(packet.width, packet.height, pattern), pattern)
        for sheets in sheets_by_cut(packet, pattern):
            rows[sheets] = min(rows.get(sheets, found), found)
            for picture in sheets:
                pictures[picture] = min(pictures.get(picture, found), found)
    return pictures, rows


def short_patterns(packet, longest):
    """Return all patterns that are not longer than a length."""
    size = (packet.width, packet.height)
    return [pattern for pattern in patterns_tried(*size) if saw_length_tried(*size, pattern) <= longest]


class ExamplesTest(SheetTest):

    def test_the_least_sawing(self):
        self.check_example("""
>>> from sawnsheets.packets import Packet
>>> from sawnsheets.sawing import fewest_cuts, least_for_all, least_saw
>>> packet, goals = Packet(2, 2, ("abab", "cccc")), ("abcc", "ccab")
>>> told = [least_saw(packet, "abcc"), least_saw(packet, "aacc"), least_for_all(packet, goals)]
>>> told + [fewest_cuts(packet, goals, 2, 3), fewest_cuts(packet, goals, 1, 3), fewest_cuts(packet, ("cccc", "abab"), 0, 1)]
[(2, (0, 0, 1, 1)), None, (2, (0, 0, 1, 1)), 1, None, 1]
""")


class LeastSawTest(SheetTest):

    def test_beside_all_patterns_and_orders_tried(self):
        for packet in PACKETS:
            pictures, _ = least_tried(packet)
            for row in product(letters_of(packet) + ["q"], repeat=packet.cells):
                picture = "".join(row)
                self.assertEqual(least_saw(packet, picture), pictures.get(picture), (packet.sheets, picture))

    def test_the_first_of_several_of_the_least_length(self):
        self.assertEqual(least_saw(Packet(3, 1, ("aba", "cbc")), "abc"), (1, (0, 0, 1)))
        self.assertEqual(least_saw(Packet(2, 2, ("abbc", "bbba")), "bbbc"), (2, (0, 0, 0, 1)))

    def test_the_least_is_not_always_the_first_one_that_can_show_it(self):
        # The pattern (0, 0, 0, 1, 1, 1) comes before it and shows it, too, but is longer.
        packet = Packet(2, 3, ("aaabaa", "bbaaba"))
        self.assertTrue(can_show(packet, (0, 0, 0, 1, 1, 1), "bbabaa"))
        self.assertEqual(least_saw(packet, "bbabaa"), (2, (0, 0, 1, 1, 1, 1)))

    def test_no_pattern(self):
        self.assertIsNone(least_saw(TWO, "aacc"))
        self.assertIsNone(least_saw(PLAIN, "aaaaaaaae"))

    def test_plain_sheets_of_the_largest_size(self):
        # Here each side between unlike letters has to be sawn, and no other one.
        for picture in ["aaaabaaaa", "abcdabcda", "aabbccddd", "abababaab", "ddddddddd"]:
            length, pattern = least_saw(PLAIN, picture)
            for cell in range(9):
                for near in neighbours(3, 3, cell):
                    self.assertEqual(pattern[cell] == pattern[near], picture[cell] == picture[near])
            self.assertEqual(length, saw_length_tried(3, 3, pattern))

    def test_invalid_pictures(self):
        for picture in NO_PICTURES:
            with self.subTest(picture=picture):
                self.fails("InvalidPicture", least_saw, TWO, picture)


class LeastForAllTest(SheetTest):

    def test_beside_all_patterns_and_orders_tried(self):
        for packet in PACKETS:
            _, rows = least_tried(packet)
            size = len(letters_of(packet)) ** (packet.cells * len(packet))
            asked = all_sheets(packet, letters_of(packet)) if size < 5000 else sorted(rows)
            for goals in asked:
                self.assertEqual(least_for_all(packet, goals), rows.get(goals), (packet.sheets, goals))
            self.assertTrue(set(rows) <= set(asked))

    def test_the_first_of_several_of_the_least_length(self):
        self.assertEqual(least_for_all(Packet(3, 1, ("aba", "cbc")), ("abc", "cba")), (1, (0, 0, 1)))

    def test_sheets_in_another_order(self):
        self.assertEqual(least_for_all(TWO, ("cccc", "abab")), (0, (0, 0, 0, 0)))
        self.assertEqual(least_for_all(TWO, ("abab", "cccc")), (0, (0, 0, 0, 0)))
        self.assertEqual(least_for_all(PLAIN, tuple(reversed(PLAIN.sheets))), (0, (0,) * 9))

    def test_a_picture_may_need_less_than_all_sheets(self):
        packet, goals = Packet(2, 1, ("ab", "ac", "bc")), ("ab", "bc", "ac")
        self.assertEqual(least_for_all(packet, goals), (0, (0, 0)))
        goals = ("ab", "bb", "ac")
        self.assertIsNone(least_for_all(packet, goals))
        packet, goals = Packet(2, 1, ("aa", "bb", "cc")), ("aa", "bc", "cb")
        self.assertEqual((least_saw(packet, "aa"), least_for_all(packet, goals)), ((0, (0, 0)), (1, (0, 1))))

    def test_no_pattern(self):
        self.assertIsNone(least_for_all(TWO, ("aacc", "ccab")))
        self.assertIsNone(least_for_all(TWO, ("cccc", "cccc")))

    def test_the_largest_size(self):
        goals = ("aaaabaaaa", "bbbbabbbb", "ccccccccc", "ddddddddd")
        self.assertEqual(least_for_all(PLAIN, goals), (4, (0, 0, 0, 0, 1, 0, 0, 0, 0)))
        goals = ("abcdabcda", "bcdabcdab", "cdabcdabc", "dabcdabcd")
        self.assertEqual(least_for_all(PLAIN, goals), (12, tuple(range(9))))

    def test_invalid_goals(self):
        for goals in NO_GOALS:
            with self.subTest(goals=goals):
                self.fails("InvalidGoals", least_for_all, TWO, goals)


class FewestCutsTest(SheetTest):

    def check_all(self, packet, longest, needed, asked):
        """Compare for some goals with what is needed, one cut less being not enough."""
        for goals in asked:
            cuts = needed.get(goals, 4)
            for most in range(4):
                wanted = cuts if cuts <= most else None
                found = fewest_cuts(packet, goals, longest, most)
                self.assertEqual(found, wanted, (packet.sheets, goals, longest, most))

    def test_beside_all_layings_tried(self):
        seen = set()
        for packet in SMALL_PACKETS:
            asked = sorted(cuts_needed(packet, patterns_tried(packet.width, packet.height)))
            asked = asked[::len(asked) // 20 + 1] + [("z" * packet.cells,) * len(packet)]
            for longest in range(5):
                needed = cuts_needed(packet, short_patterns(packet, longest))
                self.check_all(packet, longest, needed, asked)
                seen.update(needed.get(goals, 4) for goals in asked)
        self.assertEqual(seen, {0, 1, 2, 3, 4})

    def test_no_cut(self):
        for longest, most in product([0, 12], range(4)):
            self.assertEqual(fewest_cuts(TWO, TWO.sheets, longest, most), 0)
        self.assertIsNone(fewest_cuts(TWO, ("cccc", "abab"), 12, 0))

    def test_cuts_of_length_0(self):
        packet = Packet(2, 1, ("ab", "cd", "ef"))
        for goals in [("cd", "ef", "ab"), ("ab", "ef", "cd"), ("ef", "ab", "cd")]:
            self.assertEqual(fewest_cuts(packet, goals, 0, 1), 1)
        self.assertIsNone(fewest_cuts(packet, ("ad", "cb", "ef"), 0, 3))
        # A single sheet cannot be exchanged for anything.
        self.assertEqual(fewest_cuts(Packet(2, 1, ("ab",)), ("ab",), 0, 0), 0)
        self.assertIsNone(fewest_cuts(Packet(2, 1, ("ab",)), ("ba",), 12, 3))

    def test_several_short_cuts_or_one_long_one(self):
        packet, goals = Packet(4, 1, ("abcd", "efgh")), ("afch", "ebgd")
        told = [fewest_cuts(packet, goals, longest, 3) for longest in range(5)]
        self.assertEqual(told, [None, 3, 2, 1, 1])
        self.assertIsNone(fewest_cuts(packet, goals, 1, 2))
        self.assertIsNone(fewest_cuts(packet, goals, 2, 1))

    def test_goals_that_never_come(self):
        self.assertIsNone(fewest_cuts(TWO, ("aacc", "ccab"), 12, 3))

    def test_the_largest_size(self):
        # Each cell is laid otherwise, so that each of three corners needs a cut of its own if all are short.
        packet, goals = Packet(2, 2, ("abcd", "efgh", "ijkl")), ("afkh", "ejcd", "ibgl")
        self.assertEqual([fewest_cuts(packet, goals, longest, 3) for longest in (1, 2, 3, 4)], [None, 3, 2, 1])
        # Here two corners are enough.
        goals = ("afkd", "ejch", "ibgl")
        self.assertEqual([fewest_cuts(packet, goals, longest, 3) for longest in (1, 2, 3, 4)], [None, 2, 2, 1])

    def test_invalid_goals(self):
        for goals in NO_GOALS:
            with self.subTest(goals=goals):
                self.fails("InvalidGoals", fewest_cuts, TWO, goals, 2, 3)
                self.fails("InvalidGoals", fewest_cuts, TWO, goals, -1, 4)
        self.fails("InvalidGoals", fewest_cuts, SIX_CELLS, TWO.sheets, 2, 3)

    def test_invalid_lengths(self):
        for longest in [-1, 13, True, False, None, "2", (2,)]:
            with self.subTest(longest=longest):
                self.fails("InvalidNumber", fewest_cuts, TWO, TWO.sheets, longest, 3)
                self.fails("InvalidNumber", fewest_cuts, FOUR_SHEETS, FOUR_SHEETS.sheets, longest, 3)
                with self.assertRaisesRegex(ValueError, "length"):
                    fewest_cuts(TWO, TWO.sheets, longest, -1)

    def test_invalid_numbers_of_cuts(self):
        for most in [-1, 4, True, False, None, "2", (2,)]:
            with self.subTest(most=most):
                self.fails("InvalidNumber", fewest_cuts, TWO, TWO.sheets, 2, most)
                self.fails("InvalidNumber", fewest_cuts, SIX_CELLS, SIX_CELLS_GOALS, 2, most)

    def test_the_greatest_numbers_are_good(self):
        self.assertEqual(fewest_cuts(TWO, ("abcc", "ccab"), 12, 3), 1)
        self.assertEqual(fewest_cuts(TWO, TWO.sheets, 0, 0), 0)

    def test_too_many_cells_or_sheets(self):
        # No size has five cells, so six are the fewest that are too many.
        for packet in [SIX_CELLS, Packet(3, 2, ("abcabc",)), FOUR_SHEETS, Packet(1, 1, ("a",) * 4), PLAIN]:
            self.fails("TooMany", fewest_cuts, packet, packet.sheets, 0, 0)
            self.fails("TooMany", fewest_cuts, packet, packet.sheets, 12, 3)


class NothingIsKeptTest(SheetTest):

    def test_repeated_calls_are_equal_and_arguments_are_as_before(self):
        packet, goals = Packet(2, 2, ("abab", "cccc")), ("abcc", "ccab")
        for call, more in [(least_saw, ("abcc",)), (least_for_all, (goals,)), (fewest_cuts, (goals, 2, 3))]:
            self.assertEqual(call(packet, *more), call(packet, *more))
        self.fails("InvalidGoals", least_for_all, packet, goals[:1])
        self.assertEqual((packet, goals), (Packet(2, 2, ("abab", "cccc")), ("abcc", "ccab")))
