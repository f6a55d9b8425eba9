"""What never changes: points 1, 10 and 11."""

from itertools import permutations, product

from sawnsheets.columns import columns, comes_of, first_names, same_kind, wood
from sawnsheets.packets import Packet
from tests.support import NO_GOALS, SheetTest, all_sheets, cuts_needed, letters_of, patterns_tried

PACKETS = [
    Packet(1, 1, ("a",)), Packet(1, 1, ("b", "a", "c")), Packet(1, 1, ("b", "a", "b", "a")), Packet(2, 1, ("ab", "cd")),
    Packet(1, 2, ("ab", "ba", "bb")), Packet(3, 1, ("aba", "cbc")), Packet(2, 2, ("abca",)),
    Packet(2, 2, ("abab", "bbaa")), Packet(1, 4, ("aabb", "abab")),
]
TWO = Packet(2, 2, ("abab", "cccc"))


def packets_of(width, height, many, letters):
    """Return all packets of a size, with so many sheets, of some letters."""
    some = Packet(width, height, (letters[0] * (width * height),) * many)
    return [Packet(width, height, sheets) for sheets in all_sheets(some, letters)]


def renamed(packet, names):
    """Return a packet whose letters are called otherwise."""
    sheets = tuple("".join(names[letter] for letter in sheet) for sheet in packet.sheets)
    return Packet(packet.width, packet.height, sheets)


def letters_on(packet, cell):
    """Return how often each letter lies on a cell."""
    found = {}
    for sheet in packet.sheets:
        found[sheet[cell]] = found.get(sheet[cell], 0) + 1
    return found


def same_kind_tried(one, other, letters):
    """Tell by trying all new names of some letters whether packets of one size are of the same kind."""
    for order in permutations(letters):
        new = renamed(one, dict(zip(letters, order)))
        if all(letters_on(new, cell) == letters_on(other, cell) for cell in range(one.cells)):
            return True
    return False


class ExamplesTest(SheetTest):

    def test_what_never_changes(self):
        self.check_example("""
>>> from sawnsheets.columns import columns, comes_of, first_names, same_kind, wood
>>> from sawnsheets.packets import Packet
>>> packet = Packet(2, 2, ("abab", "cccc"))
>>> told = [columns(packet), comes_of(packet, ("abcc", "ccab")), comes_of(packet, ("aacc", "ccab")), wood(packet)]
>>> told + [same_kind(packet, Packet(2, 2, ("xxxx", "yzyz"))), first_names(Packet(2, 1, ("zy", "xz"))).sheets]
[('ac', 'bc', 'ac', 'bc'), True, False, {'a': 2, 'b': 2, 'c': 4}, True, ('ab', 'ca')]
""")


class ColumnsTest(SheetTest):

    def test_ordinary_ones(self):
        self.assertEqual(columns(Packet(1, 1, ("q",))), ("q",))
        self.assertEqual(columns(Packet(3, 1, ("cab", "bca", "abc"))), ("abc", "abc", "abc"))
        self.assertEqual(columns(Packet(1, 2, ("ba", "aa", "bz", "ac"))), ("aabb", "aacz"))

    def test_the_largest_size(self):
        packet = Packet(3, 3, ("ihgfedcba", "abcdefghi", "zzzzyyyyy", "mmmmmmmmm"))
        self.assertEqual(columns(packet),
                         ("aimz", "bhmz", "cgmz", "dfmz", "eemy", "dfmy", "cgmy", "bhmy", "aimy"))

    def test_cuts_do_not_change_them(self):
        for packet in PACKETS:
            for sheets in cuts_needed(packet, patterns_tried(packet.width, packet.height)):
                self.assertEqual(columns(Packet(packet.width, packet.height, sheets)), columns(packet))


class ComesOfTest(SheetTest):

    def test_beside_all_cuts_tried(self):
        for packet in PACKETS:
            reached = cuts_needed(packet, patterns_tried(packet.width, packet.height))
            for goals in all_sheets(packet, letters_of(packet)):
                self.assertIs(comes_of(packet, goals), goals in reached, (packet.sheets, goals))

    def test_like_columns_in_other_places(self):
        packet = Packet(2, 1, ("ab", "cd"))
        self.assertIs(comes_of(packet, ("cb", "ad")), True)
        self.assertIs(comes_of(packet, ("ba", "dc")), False)
        self.assertIs(comes_of(packet, ("ab", "ab")), False)

    def test_like_letters_as_often_are_not_enough(self):
        self.assertIs(comes_of(Packet(1, 1, ("a", "a", "b")), ("a", "b", "b")), False)
        self.assertIs(comes_of(Packet(2, 1, ("ab", "ba")), ("aa", "bb")), True)
        self.assertIs(comes_of(Packet(2, 1, ("ab", "ab")), ("aa", "bb")), False)

    def test_invalid_goals(self):
        for goals in NO_GOALS:
            with self.subTest(goals=goals):
                self.fails("InvalidGoals", comes_of, TWO, goals)


class WoodTest(SheetTest):

    def test_letters_are_ascending(self):
        self.assertEqual(list(wood(Packet(2, 2, ("zbza", "bzcc"))).items()), [("a", 1), ("b", 2), ("c", 2), ("z", 3)])
        self.assertEqual(list(wood(Packet(1, 1, ("q",))).items()), [("q", 1)])

    def test_all_cells_of_all_sheets_are_counted(self):
        for packet in [*PACKETS, Packet(3, 3, ("abcdefghi", "ihgfedcba", "kkkkkkkkk", "akakakaka"))]:
            found = wood(packet)
            self.assertEqual(list(found), letters_of(packet))
            self.assertEqual(found, {letter: sum(sheet.count(letter) for sheet in packet.sheets) for letter in found})
            self.assertEqual(sum(found.values()), packet.cells * len(packet))

    def test_the_dict_may_be_changed(self):
        found = wood(TWO)
        found["a"] = 7
        del found["b"]
        self.assertEqual(wood(TWO), {"a": 2, "b": 2, "c": 4})
        self.assertIsNot(wood(TWO), wood(TWO))


class SameKindTest(SheetTest):

    def test_beside_all_names_tried(self):
        for width, height, many, letters in [(1, 1, 3, "abc"), (2, 1, 2, "abc"), (1, 3, 1, "abc"), (1, 2, 3, "ab")]:
            packets = packets_of(width, height, many, letters)
            for one, other in product(packets, repeat=2):
                wanted = same_kind_tried(one, other, letters)
                self.assertIs(same_kind(one, other), wanted, (one.sheets, other.sheets))

    def test_other_letters(self):
        self.assertIs(same_kind(Packet(2, 1, ("ab", "cd")), Packet(2, 1, ("wx", "yz"))), True)
        self.assertIs(same_kind(Packet(2, 1, ("ab", "cd")), Packet(2, 1, ("ba", "dc"))), True)
        self.assertIs(same_kind(TWO, TWO), True)

    def test_mixed_columns(self):
        self.assertIs(same_kind(Packet(3, 1, ("abc", "def")), Packet(3, 1, ("zyx", "mno"))), True)
        self.assertIs(same_kind(Packet(3, 1, ("aba", "bab")), Packet(3, 1, ("xxx", "yyy"))), True)
        self.assertIs(same_kind(Packet(3, 1, ("aba", "bac")), Packet(3, 1, ("xxx", "yyy"))), False)
        self.assertIs(same_kind(Packet(2, 1, ("aa", "bc")), Packet(2, 1, ("yx", "xz"))), True)

    def test_letters_that_would_need_two_names(self):
        self.assertIs(same_kind(Packet(2, 1, ("aa",)), Packet(2, 1, ("ab",))), False)
        self.assertIs(same_kind(Packet(1, 1, ("a", "a")), Packet(1, 1, ("a", "b"))), False)
        self.assertIs(same_kind(Packet(2, 1, ("ab", "ba")), Packet(2, 1, ("ab", "bc"))), False)

    def test_two_letters_that_would_have_to_be_called_the_same(self):
        self.assertIs(same_kind(Packet(2, 1, ("ab",)), Packet(2, 1, ("aa",))), False)
        self.assertIs(same_kind(Packet(1, 1, ("a", "b")), Packet(1, 1, ("a", "a"))), False)
        self.assertIs(same_kind(Packet(2, 1, ("ab", "bc")), Packet(2, 1, ("ab", "ba"))), False)

    def test_columns_that_are_alike_one_by_one(self):
        # Each single column could be called as the other one's, but not all of them at once.
        one, other = Packet(3, 1, ("aab", "bcc")), Packet(3, 1, ("aaa", "bcd"))
        self.assertIs(same_kind(one, other), False)
        self.assertIs(same_kind(other, one), False)

    def test_unlike_sizes_and_numbers_of_sheets(self):
        self.assertIs(same_kind(Packet(2, 1, ("ab",)), Packet(1, 2, ("ab",))), False)
        self.assertIs(same_kind(Packet(2, 1, ("aa",)), Packet(1, 1, ("a",))), False)
        self.assertIs(same_kind(Packet(4, 2, ("a" * 8,)), Packet(2, 4, ("a" * 8,))), False)
        self.assertIs(same_kind(Packet(2, 1, ("ab",)), Packet(2, 1, ("ab", "ab"))), False)
        self.assertIs(same_kind(Packet(1, 1, ("a", "a")), Packet(1, 1, ("a",))), False)

    def test_the_largest_size(self):
        sheets = ("abcdefghi", "jklmnopqr", "stuvwxyza", "bcdefghij")
        names = dict(zip("abcdefghijklmnopqrstuvwxyz", "qwertyuiopasdfghjklzxcvbnm"))
        one = Packet(3, 3, sheets)
        other = renamed(Packet(3, 3, sheets[2:] + sheets[:2]), names)
        self.assertIs(same_kind(one, other), True)
        self.assertIs(same_kind(one, Packet(3, 3, other.sheets[:3] + ("z" + other.sheets[3][1:],))), False)


class FirstNamesTest(SheetTest):

    def test_ordinary_ones(self):
        self.assertEqual(first_names(Packet(1, 1, ("q",))), Packet(1, 1, ("a",)))
        self.assertEqual(first_names(Packet(3, 2, ("cabbac", "xcyaax"))), Packet(3, 2, ("abccba", "daebbd")))
        self.assertEqual(first_names(Packet(1, 3, ("bbb", "abc"))), Packet(1, 3, ("aaa", "bac")))

    def test_names_come_sheet_by_sheet(self):
        self.assertEqual(first_names(Packet(2, 1, ("zy", "xw"))).sheets, ("ab", "cd"))

    def test_all_letters(self):
        packet = Packet(3, 3, ("zyxwvutsr", "qponmlkji", "hgfedcbaz", "zyxwvutsr"))
        self.assertEqual(first_names(packet).sheets, ("abcdefghi", "jklmnopqr", "stuvwxyza", "abcdefghi"))

    def test_equal_letters_stay_equal_and_others_do_not(self):
        for packet in packets_of(2, 2, 2, "axz"):
            one, other = "".join(packet.sheets), "".join(first_names(packet).sheets)
            self.assertEqual([one.index(letter) for letter in one], [other.index(letter) for letter in other])
            self.assertEqual(list(dict.fromkeys(other)), list("abc")[:len(set(one))])
            self.assertEqual((packet.width, packet.height), (2, 2))


class NothingIsKeptTest(SheetTest):

    def test_repeated_calls_are_equal_and_packets_are_as_before(self):
        packet, other = Packet(2, 2, ("abab", "cccc")), Packet(2, 2, ("xxxx", "yzyz"))
        for call, more in [(columns, ()), (comes_of, (("abcc", "ccab"),)), (wood, ()), (same_kind, (other,)),
                           (first_names, ())]:
            self.assertEqual(call(packet, *more), call(packet, *more))
        self.assertEqual((packet, other), (Packet(2, 2, ("abab", "cccc")), Packet(2, 2, ("xxxx", "yzyz"))))
