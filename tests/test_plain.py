"""Plain sheets: points 1, 14, 15 and 16."""

from itertools import combinations_with_replacement, product

from sawnsheets.packets import Packet
from sawnsheets.plain import first_lost, lost_count, one_packet, restored
from tests.support import BAD_SIZES, NO_PICTURES, SheetTest, cuts_needed, patterns_tried

# Width, height, the greatest number of plain sheets, and letters for them.
SMALL = [(1, 1, 4, "abc"), (2, 1, 3, "abc"), (1, 2, 4, "ab"), (3, 1, 3, "ab"), (2, 2, 2, "abc"), (1, 3, 2, "abc")]
NO_WORN_PICTURES = [
    "", "???", "?????", "ab?", "ab?cd", "ab?A", "ab?*", "ab? ", "ab?1", "ab?\u00e4", None, 4, ("?",) * 4, ["?"] * 4,
]
NO_KINDS = [
    "", "abcde", "aaaaa", "ba", "aba", "abdc", "a?", "?", "aB", "A", "a ", "1", "a\u00e4", None, 1, ("a", "b"),
    ["a"], (),
]


def texts(letters, many):
    """Return all texts of so many of some letters."""
    return ["".join(row) for row in product(letters, repeat=many)]


def packets_of_plain(width, height, kinds):
    """Return all sheets, in tuple order, that plain sheets of some kinds can become by all patterns."""
    plain = Packet(width, height, tuple(kind * (width * height) for kind in kinds))
    return sorted(cuts_needed(plain, patterns_tried(width, height)))


def cases():
    """Yield sizes, kinds and all sheets that plain ones of these kinds can become."""
    for width, height, most, letters in SMALL:
        for many in range(1, most + 1):
            for row in combinations_with_replacement(letters, many):
                yield width, height, "".join(row), packets_of_plain(width, height, row)


class ExamplesTest(SheetTest):

    def test_plain_sheets(self):
        self.check_example("""
>>> from sawnsheets.plain import first_lost, lost_count, one_packet, restored
>>> told = [one_packet(2, 1, ("ab", "ba")), one_packet(2, 1, ("ab", "bb")), lost_count(2, 1, "aab", ("ab",))]
>>> told + [first_lost(2, 1, "aab", ("ab",)), restored(2, 1, "ab", ("a?", "?a")), restored(2, 1, "ab", ("c?", "??"))]
['ab', None, 2, ('aa', 'ba'), ('ab', 'ba'), None]
""")

    def test_kinds_that_are_not_ascending(self):
        self.check_example("""
>>> from sawnsheets.plain import lost_count
>>> lost_count(2, 1, "ba", ())
raises InvalidKinds()
""")


class OnePacketTest(SheetTest):

    def test_beside_all_packets_tried(self):
        found = {}
        for width, height, kinds, packets in cases():
            found.update({(width, height, sheets): kinds for sheets in packets})
        for width, height, most, letters in SMALL:
            for many in range(1, most + 1):
                for pictures in product(texts(letters, width * height), repeat=many):
                    wanted = found.get((width, height, pictures))
                    self.assertEqual(one_packet(width, height, pictures), wanted, (width, height, pictures))

    def test_pictures_that_came_of_plain_sheets(self):
        self.assertEqual(one_packet(3, 3, ("abcdabcda", "bcdabcdab", "cdabcdabc", "dabcdabcd")), "abcd")
        self.assertEqual(one_packet(3, 3, ("zzzzazzzz", "azazzzaza", "zazazazaz")), "azz")
        self.assertEqual(one_packet(1, 1, ("q",)), "q")
        self.assertEqual(one_packet(2, 1, ("zz",)), "z")
        self.assertEqual(one_packet(1, 1, ("z", "a", "z", "a")), "aazz")

    def test_pictures_that_did_not(self):
        self.assertIsNone(one_packet(2, 1, ("ab",)))
        self.assertIsNone(one_packet(2, 1, ("ab", "bc")))
        self.assertIsNone(one_packet(2, 1, ("aa", "ab", "bb")))
        self.assertIsNone(one_packet(3, 3, ("abcdabcda", "bcdabcdab", "cdabcdabc", "dabcdabcc")))

    def test_invalid_sizes(self):
        for width, height in BAD_SIZES:
            with self.subTest(width=width, height=height):
                for pictures in [("a",), (), ("a" * 12,) * 5]:
                    self.fails("InvalidSize", one_packet, width, height, pictures)

    def test_invalid_pictures(self):
        for picture in NO_PICTURES:
            with self.subTest(picture=picture):
                self.fails("InvalidPictures", one_packet, 2, 2, (picture,), index=0)
                self.fails("InvalidPictures", one_packet, 2, 2, ("abab", picture, picture), index=1)
                self.fails("InvalidPictures", one_packet, 2, 2, ("abab", "baba", "abab", picture, "abab"), index=3)

    def test_no_pictures_and_too_many(self):
        self.fails("InvalidPictures", one_packet, 2, 2, (), index=0)
        self.fails("InvalidPictures", one_packet, 2, 2, ("abab",) * 5, index=4)
        self.fails("InvalidPictures", one_packet, 2, 2, ("abab",) * 7, index=4)
        self.fails("InvalidPictures", one_packet, 2, 2, ("abab",) * 4 + ("", ""), index=4)
        self.fails("InvalidPictures", one_packet, 2, 2, ("abab", "ab") + ("abab",) * 4, index=1)


class LostTest(SheetTest):

    def check_lost(self, width, height, kinds, pictures, rows):
        self.assertEqual(lost_count(width, height, kinds, pictures), len(rows), (width, height, kinds, pictures))
        wanted = min(rows, default=None)
        self.assertEqual(first_lost(width, height, kinds, pictures), wanted, (width, height, kinds, pictures))

    def test_beside_all_rows_tried(self):
        for width, height, kinds, packets in cases():
            known = texts("abc", width * height)
            for many in range(len(kinds) + 1):
                lost = {}
                for sheets in packets:
                    lost.setdefault(sheets[:many], set()).add(sheets[many:])
                asked = list(product(known, repeat=many)) if len(known) ** many < 800 else [*lost, known[:many]]
                for pictures in asked:
                    self.check_lost(width, height, kinds, tuple(pictures), lost.get(tuple(pictures), set()))

    def test_equal_kinds(self):
        self.check_lost(2, 1, "aaaa", ("aa",), [("aa", "aa", "aa")])
        self.assertEqual(lost_count(3, 3, "aabb", ()), 6 ** 9)
        self.assertEqual(first_lost(3, 3, "aabb", ()), ("a" * 9, "a" * 9, "b" * 9, "b" * 9))
        self.assertEqual(lost_count(3, 3, "abbb", ("bbbbbbbba",)), 3 ** 8)
        self.assertEqual(first_lost(3, 3, "abbb", ("bbbbbbbba",)), ("aaaaaaaab", "b" * 9, "b" * 9))

    def test_no_sheet_is_lost(self):
        self.check_lost(2, 1, "ab", ("ab", "ba"), [()])
        self.check_lost(1, 1, "a", ("a",), [()])
        self.check_lost(3, 3, "abcd", ("abcdabcda", "bcdabcdab", "cdabcdabc", "dabcdabcd"), [()])

    def test_rows_are_told_apart_by_the_turn_of_their_sheets(self):
        self.check_lost(1, 1, "abc", (), [(x, y, z) for x, y, z in product("abc", repeat=3) if len({x, y, z}) == 3])
        self.check_lost(2, 1, "abc", ("aa",), [("bb", "cc"), ("bc", "cb"), ("cb", "bc"), ("cc", "bb")])

    def test_no_pictures(self):
        self.assertEqual(lost_count(3, 3, "abcd", ()), 24 ** 9)
        self.assertEqual(first_lost(3, 3, "abcd", ()), ("a" * 9, "b" * 9, "c" * 9, "d" * 9))

    def test_pictures_that_do_not_come_of_such_sheets(self):
        self.check_lost(2, 1, "ab", ("ac",), [])
        self.check_lost(2, 1, "ab", ("aa", "ab"), [])
        self.check_lost(2, 1, "aab", ("ab", "bb"), [])
        self.check_lost(1, 1, "a", ("b",), [])

    def test_invalid_sizes(self):
        for call, (width, height) in product([lost_count, first_lost], BAD_SIZES):
            with self.subTest(call=call.__name__, width=width, height=height):
                self.fails("InvalidSize", call, width, height, "ab", ("a",))
                self.fails("InvalidSize", call, width, height, "ba", ("?",))

    def test_invalid_kinds(self):
        for call, kinds in product([lost_count, first_lost], NO_KINDS):
            with self.subTest(call=call.__name__, kinds=kinds):
                self.fails("InvalidKinds", call, 2, 2, kinds, ("abab",))
                self.fails("InvalidKinds", call, 2, 2, kinds, ("",) * 9)

    def test_invalid_pictures(self):
        for call, picture in product([lost_count, first_lost], NO_PICTURES):
            with self.subTest(call=call.__name__, picture=picture):
                self.fails("InvalidPictures", call, 2, 2, "ab", (picture,), index=0)
                self.fails("InvalidPictures", call, 2, 2, "abc", ("abab", "baba", picture, "abab"), index=2)
                # A picture that does not come of such sheets is a picture all the same.
                self.fails("InvalidPictures", call, 2, 2, "ab", ("zzzz", picture), index=1)

    def test_too_many_pictures(self):
        for call in [lost_count, first_lost]:
            self.fails("InvalidPictures", call, 2, 1, "a", ("aa", "aa"), index=1)
            self.fails("InvalidPictures", call, 2, 1, "ab", ("ab", "ba", "ab", "ba"), index=2)
            self.fails("InvalidPictures", call, 2, 1, "abcd", ("ab",) * 5, index=4)
            self.fails("InvalidPictures", call, 2, 1, "ab", ("ab", "?", "ab"), index=1)


class RestoredTest(SheetTest):

    def restored_tried(self, packets, pictures):
        """Return what all packets that fit worn pictures have in common, or None if none do."""
        worn = "".join(pictures)
        fitting = [text for text in map("".join, packets) if all(x in ("?", y) for x, y in zip(worn, text))]
        if not fitting:
            return None
        signs = "".join(column[0] if len(set(column)) == 1 else "?" for column in zip(*fitting))
        size = len(pictures[0])
        return tuple(signs[k:k + size] for k in range(0, len(signs), size))

    def test_beside_all_packets_tried(self):
        for width, height, kinds, packets in cases():
            worn = texts("ab?", width * height)
            asked = list(product(worn, repeat=len(kinds)))
            for pictures in asked[::len(asked) // 200 + 1]:
                wanted = self.restored_tried(packets, pictures)
                self.assertEqual(restored(width, height, kinds, pictures), wanted, (kinds, pictures))

    def test_cells_that_are_sure(self):
        self.assertEqual(restored(1, 1, "a", ("?",)), ("a",))
        self.assertEqual(restored(2, 1, "aab", ("b?", "??", "?b")), ("ba", "aa", "ab"))
        self.assertEqual(restored(2, 1, "aaaa", ("??",) * 4), ("aa",) * 4)
        self.assertEqual(restored(3, 1, "abc", ("a?c", "?a?", "cba")), ("acc", "bab", "cba"))

    def test_cells_that_are_not(self):
        self.assertEqual(restored(1, 1, "ab", ("?", "?")), ("?", "?"))
        self.assertEqual(restored(2, 1, "aab", ("a?", "??", "?b")), ("aa", "?a", "?b"))
        self.assertEqual(restored(1, 1, "aabb", ("?", "b", "?", "?")), ("?", "b", "?", "?"))
        self.assertEqual(restored(1, 1, "aabb", ("?", "b", "?", "b")), ("a", "b", "a", "b"))

    def test_pictures_that_are_read_already(self):
        self.assertEqual(restored(2, 1, "ab", ("ab", "ba")), ("ab", "ba"))
        self.assertEqual(restored(1, 1, "z", ("z",)), ("z",))

    def test_pictures_that_do_not_fit(self):
        self.assertIsNone(restored(1, 1, "a", ("b",)))
        self.assertIsNone(restored(2, 1, "ab", ("a?", "a?")))
        self.assertIsNone(restored(2, 1, "aab", ("?b", "??", "?b")))
        # The last cell alone does not fit.
        self.assertIsNone(restored(3, 3, "abcd", ("????????a", "????????a", "?" * 9, "?" * 9)))

    def test_the_largest_size(self):
        pictures = ("abcd?????", "bcda?aaaa", "cdab?bbbb", "????????d")
        wanted = ("abcd????c", "bcda?aaaa", "cdab?bbbb", "dabc????d")
        self.assertEqual(restored(3, 3, "abcd", pictures), wanted)

    def test_invalid_sizes(self):
        for width, height in BAD_SIZES:
            with self.subTest(width=width, height=height):
                self.fails("InvalidSize", restored, width, height, "a", ("?",))
                self.fails("InvalidSize", restored, width, height, "", ())

    def test_invalid_kinds(self):
        for kinds in NO_KINDS:
            with self.subTest(kinds=kinds):
                self.fails("InvalidKinds", restored, 2, 2, kinds, ("????",))
                self.fails("InvalidKinds", restored, 2, 2, kinds, ())

    def test_invalid_pictures(self):
        for picture in NO_WORN_PICTURES:
            with self.subTest(picture=picture):
                self.fails("InvalidPictures", restored, 2, 2, "ab", (picture, "????"), index=0)
                self.fails("InvalidPictures", restored, 2, 2, "ab", ("zzzz", picture), index=1)
                self.fails("InvalidPictures", restored, 2, 2, "abc", ("????", picture), index=1)
                self.fails("InvalidPictures", restored, 2, 2, "abc", (picture, picture, "????", "????"), index=0)

    def test_too_few_pictures(self):
        self.fails("InvalidPictures", restored, 2, 1, "a", (), index=0)
        self.fails("InvalidPictures", restored, 2, 1, "abc", ("??",), index=1)
        self.fails("InvalidPictures", restored, 2, 1, "abcd", ("??",) * 3, index=3)

    def test_too_many_pictures(self):
        self.fails("InvalidPictures", restored, 2, 1, "a", ("??", "??"), index=1)
        self.fails("InvalidPictures", restored, 2, 1, "ab", ("??", "??", "?", "??"), index=2)
        self.fails("InvalidPictures", restored, 2, 1, "abcd", ("??",) * 6, index=4)


class NothingIsKeptTest(SheetTest):

    def test_repeated_calls_are_equal_and_arguments_are_as_before(self):
        pictures = ("ab", "ba")
        for call, given in [(one_packet, (2, 1, pictures)), (lost_count, (2, 1, "aabb", pictures)),
                            (first_lost, (2, 1, "aabb", pictures)), (restored, (2, 1, "ab", pictures))]:
            self.assertEqual(call(*given), call(*given))
        self.fails("InvalidPictures", restored, 2, 1, "abc", pictures, index=2)
        self.assertEqual(pictures, ("ab", "ba"))
