"""Pieces turned: points 1, 12 and 13."""

from itertools import combinations, product

from sawnsheets.packets import Packet
from sawnsheets.turning import comes_turned, orbits, turnable, turned
from tests.support import (NO_GOALS, NO_PATTERNS, SIZES, SheetTest, all_sheets, groups, letters_of, patterns_tried,
                           sheets_by_cut, steps_needed)

TWO = Packet(2, 2, ("abab", "cccc"))
ROWS = (0, 0, 1, 1)
NINE = Packet(3, 3, ("abcdefghi", "jklmnopqr", "aaabbbccc"))
# A ring and its hole; one with a notch at the right; two steps and what is left beside them.
RING = (0, 0, 0, 0, 1, 0, 0, 0, 0)
NOTCH = (0, 0, 0, 0, 1, 1, 0, 0, 0)
STEPS = (0, 1, 1, 2, 1, 3, 1, 1, 4)


def outline(width, cells):
    """Return the rows of cells of the least rectangle around some cells."""
    down, across = [cell // width for cell in cells], [cell % width for cell in cells]
    return [[row * width + column for column in range(min(across), max(across) + 1)]
            for row in range(min(down), max(down) + 1)]


def turned_about(rows):
    """Return rows as they are after a half turn."""
    return [row[::-1] for row in rows[::-1]]


def drawing(width, cells):
    """Return a piece drawn into its outline."""
    return [["#" if cell in cells else "." for cell in row] for row in outline(width, cells)]


def turnable_tried(width, pattern):
    """Return by drawing all pieces the numbers of those that can be turned about."""
    drawn = [drawing(width, cells) for cells in groups(pattern)]
    return tuple(number for number, rows in enumerate(drawn) if rows == turned_about(rows))


def turned_tried(packet, pattern, some):
    """Return the sheets of a packet behind the turn of some pieces, by turning what is within their outlines."""
    sheets = [list(sheet) for sheet in packet.sheets]
    for number in some:
        cells = groups(pattern)[number]
        before = outline(packet.width, cells)
        for new, old in zip(sum(before, []), sum(turned_about(before), [])):
            for sheet, text in zip(sheets, packet.sheets):
                if new in cells:
                    sheet[new] = text[old]
    return tuple("".join(sheet) for sheet in sheets)


def subsets(numbers):
    """Return all ascending tuples of some of some numbers."""
    return [some for many in range(len(numbers) + 1) for some in combinations(numbers, many)]


def patterns_to_try(width, height):
    """Return all patterns of a size, or of the large ones some of all kinds."""
    return patterns_tried(width, height)[::1 if width * height <= 6 else 13]


class ExamplesTest(SheetTest):

    def test_pieces_turned(self):
        self.check_example("""
>>> from sawnsheets.packets import Packet
>>> from sawnsheets.turning import comes_turned, orbits, turnable, turned
>>> packet, whole, rows = Packet(2, 2, ("abcd",)), (0, 0, 0, 0), (0, 0, 1, 1)
>>> told = [turnable(packet, whole), turnable(packet, (0, 0, 0, 1)), turned(packet, whole, (0,)).sheets]
>>> told + [orbits(packet, whole), orbits(packet, rows), comes_turned(packet, rows, ("badc",)), comes_turned(packet, rows, ("cdab",))]
[(0,), (1,), ('dcba',), ((0, 3), (1, 2)), ((0, 1), (2, 3)), True, False]
""")


class TurnableTest(SheetTest):

    def test_beside_all_pieces_drawn(self):
        for width, height in SIZES:
            packet = Packet(width, height, ("a" * (width * height),))
            for pattern in patterns_tried(width, height):
                self.assertEqual(turnable(packet, pattern), turnable_tried(width, pattern), (width, pattern))

    def test_single_cells(self):
        self.assertEqual(turnable(Packet(1, 1, ("a",)), (0,)), (0,))
        self.assertEqual(turnable(NINE, tuple(range(9))), tuple(range(9)))

    def test_bent_pieces(self):
        self.assertEqual(turnable(NINE, RING), (0, 1))
        self.assertEqual(turnable(NINE, NOTCH), (1,))
        self.assertEqual(turnable(NINE, STEPS), (0, 1, 2, 3, 4))
        self.assertEqual(turnable(NINE, (0, 1, 2, 0, 0, 2, 3, 2, 2)), (1, 3))
        self.assertEqual(turnable(NINE, (0, 0, 1, 2, 0, 0, 2, 3, 3)), (0, 1, 2, 3))

    def test_pieces_as_wide_as_high_that_only_a_quarter_turn_or_a_mirror_would_keep(self):
        self.assertEqual(turnable(NINE, (0, 1, 0, 0, 0, 0, 2, 3, 4)), (1, 2, 3, 4))
        self.assertEqual(turnable(NINE, (0, 1, 2, 1, 1, 1, 3, 1, 4)), (0, 1, 2, 3, 4))
        self.assertEqual(turnable(NINE, (0, 0, 0, 1, 0, 2, 1, 0, 2)), (1, 2))

    def test_cells_with_equal_sums_in_unlike_rows(self):
        # Numbers that add up alike are not yet cells that lie over against one another.
        self.assertEqual(turnable(Packet(2, 3, ("abcdef",)), (0, 0, 0, 0, 0, 1)), (1,))
        self.assertEqual(turnable(Packet(2, 3, ("abcdef",)), (0, 1, 1, 1, 1, 2)), (0, 1, 2))

    def test_invalid_patterns(self):
        for pattern in NO_PATTERNS:
            with self.subTest(pattern=pattern):
                self.fails("InvalidPattern", turnable, TWO, pattern)


class TurnedTest(SheetTest):

    def test_beside_all_outlines_turned(self):
        for width, height in SIZES:
            letters = "abcdefghi"[:width * height]
            packet = Packet(width, height, (letters, letters[::-1].replace("a", "k"), "z" * len(letters)))
            for pattern in patterns_to_try(width, height):
                for some in subsets(turnable_tried(width, pattern))[::1 if width * height <= 4 else 7]:
                    new = turned(packet, pattern, some)
                    self.assertEqual(new, Packet(width, height, turned_tried(packet, pattern, some)))
                    self.assertEqual(turned(new, pattern, some), packet)

    def test_all_pieces_that_lie_one_over_another_are_turned(self):
        packet = Packet(2, 2, ("abcd", "efgh", "ijkl", "mnop"))
        self.assertEqual(turned(packet, ROWS, (1,)).sheets, ("abdc", "efhg", "ijlk", "mnpo"))
        self.assertEqual(turned(packet, (0, 0, 0, 0), (0,)).sheets, ("dcba", "hgfe", "lkji", "ponm"))

    def test_bent_pieces(self):
        self.assertEqual(turned(NINE, RING, (0,)).sheets, ("ihgfedcba", "rqponmlkj", "cccbbbaaa"))
        self.assertEqual(turned(NINE, STEPS, (1,)).sheets, ("ahgdefcbi", "jqpmnolkr", "accbbbaac"))
        self.assertEqual(turned(NINE, NOTCH, (1,)).sheets, ("abcdfeghi", "jklmonpqr", "aaabbbccc"))

    def test_no_numbers(self):
        self.assertEqual(turned(NINE, NOTCH, ()), NINE)
        self.assertEqual(turned(TWO, (0, 0, 0, 1), ()), TWO)

    def test_invalid_pieces(self):
        for some in [(-1,), (2,), (0, 2), (1, 0), (0, 0), (1, 1), (0, 1, 1), (True,), (False,), (0, True), (False, 1),
                     ("0",), (0, "1"), (None,), (0.0,), ((0,),), [0], [], [0, 1], None, 0, 1, "0", "", {}, {0: True}]:
            with self.subTest(some=some):
                self.fails("InvalidPieces", turned, TWO, ROWS, some)

    def test_pieces_that_cannot_be_turned(self):
        self.fails("InvalidPieces", turned, TWO, (0, 0, 0, 1), (0,))
        self.fails("InvalidPieces", turned, TWO, (0, 0, 0, 1), (0, 1))
        self.fails("InvalidPieces", turned, NINE, NOTCH, (0,))
        self.assertEqual(turned(TWO, (0, 0, 0, 1), (1,)), TWO)

    def test_the_pattern_comes_before_the_pieces(self):
        for pattern, some in product(NO_PATTERNS, [(0,), (), None, (9,)]):
            with self.subTest(pattern=pattern, some=some):
                self.fails("InvalidPattern", turned, TWO, pattern, some)


class OrbitsTest(SheetTest):

    def orbits_tried(self, width, height, pattern):
        """Follow all cells through the turns of all pieces, until no new places are found."""
        cells = "abcdefghi"[:width * height]
        packet = Packet(width, height, (cells,))
        found = {letter: {letter} for letter in cells}
        for _ in cells:
            for some in turnable_tried(width, pattern):
                (sheet,) = turned_tried(packet, pattern, (some,))
                for before, now in zip(cells, sheet):
                    found[now] |= found[before]
        return tuple(dict.fromkeys(tuple(cells.index(letter) for letter in sorted(found[k])) for k in cells))

    def test_beside_all_turns_followed(self):
        for width, height in SIZES:
            packet = Packet(width, height, ("a" * (width * height),))
            for pattern in patterns_to_try(width, height):
                self.assertEqual(orbits(packet, pattern), self.orbits_tried(width, height, pattern), (width, pattern))

    def test_whole_sheets(self):
        self.assertEqual(orbits(NINE, (0,) * 9), ((0, 8), (1, 7), (2, 6), (3, 5), (4,)))
        self.assertEqual(orbits(Packet(1, 1, ("a",)), (0,)), ((0,),))
        self.assertEqual(orbits(Packet(4, 1, ("abcd",)), (0,) * 4), ((0, 3), (1, 2)))

    def test_rows(self):
        self.assertEqual(orbits(NINE, (0, 0, 0, 1, 1, 1, 2, 2, 2)), ((0, 2), (1,), (3, 5), (4,), (6, 8), (7,)))

    def test_single_cells_and_what_cannot_be_turned(self):
        self.assertEqual(orbits(TWO, (0, 1, 2, 3)), ((0,), (1,), (2,), (3,)))
        self.assertEqual(orbits(TWO, (0, 0, 0, 1)), ((0,), (1,), (2,), (3,)))
        self.assertEqual(orbits(NINE, NOTCH), ((0,), (1,), (2,), (3,), (4, 5), (6,), (7,), (8,)))

    def test_bent_pieces(self):
        self.assertEqual(orbits(NINE, RING), ((0, 8), (1, 7), (2, 6), (3, 5), (4,)))
        self.assertEqual(orbits(NINE, STEPS), ((0,), (1, 7), (2, 6), (3,), (4,), (5,), (8,)))

    def test_invalid_patterns(self):
        for pattern in NO_PATTERNS:
            with self.subTest(pattern=pattern):
                self.fails("InvalidPattern", orbits, TWO, pattern)


class ComesTurnedTest(SheetTest):

    def reached(self, packet, pattern):
        """Return all sheets that any cuts and turns of pieces of a pattern lead to, in any order."""
        def steps(now):
            found = [turned_tried(now, pattern, (number,)) for number in turnable_tried(now.width, pattern)]
            for cut in patterns_tried(now.width, now.height):
                found.extend(sheets_by_cut(now, cut))
            return found
        return steps_needed(packet, steps)

    def test_beside_all_turnings_tried(self):
        for packet in [Packet(1, 1, ("a", "b")), Packet(2, 1, ("ab", "cb")), Packet(1, 3, ("abc", "bca")),
                       Packet(3, 1, ("aab", "abb", "bab")), Packet(2, 2, ("abca",)), Packet(2, 2, ("aaba", "bbaa")),
                       Packet(2, 2, ("aabb", "abab")), Packet(4, 1, ("abab", "bbba"))]:
            asked = all_sheets(packet, letters_of(packet))
            for pattern in patterns_tried(packet.width, packet.height):
                reached = self.reached(packet, pattern)
                for goals in asked:
                    told = (packet.sheets, pattern, goals)
                    self.assertIs(comes_turned(packet, pattern, goals), goals in reached, told)

    def test_a_piece_is_turned_as_a_whole(self):
        packet, whole = Packet(2, 2, ("abcd",)), (0, 0, 0, 0)
        self.assertIs(comes_turned(packet, whole, ("dcba",)), True)
        self.assertIs(comes_turned(packet, whole, ("dbca",)), False)
        self.assertIs(comes_turned(packet, whole, ("acbd",)), False)
        # The two pairs of cells of the whole sheet cannot choose one without the other, even on two sheets.
        packet = Packet(2, 2, ("abcd", "efgh"))
        self.assertIs(comes_turned(packet, whole, ("hgfe", "dcba")), True)
        self.assertIs(comes_turned(packet, whole, ("hbcd", "dfga")), False)

    def test_each_piece_may_be_turned_or_not(self):
        packet = Packet(2, 2, ("abcd", "efgh"))
        for goals in [("abcd", "efgh"), ("bacd", "fegh"), ("abdc", "efhg"), ("badc", "fehg"), ("bedc", "fahg")]:
            self.assertIs(comes_turned(packet, ROWS, goals), True)
        self.assertIs(comes_turned(packet, ROWS, ("cbad", "gfeh")), False)
        self.assertIs(comes_turned(packet, ROWS, ("afcd", "begh")), False)

    def test_all_sheets_of_a_piece_are_turned_at_once(self):
        packet = Packet(2, 1, ("ab", "cd"))
        self.assertIs(comes_turned(packet, (0, 0), ("ba", "dc")), True)
        self.assertIs(comes_turned(packet, (0, 0), ("bc", "da")), True)
        self.assertIs(comes_turned(packet, (0, 0), ("ba", "cd")), False)

    def test_pieces_that_cannot_be_turned(self):
        packet = Packet(2, 2, ("abcd",))
        self.assertIs(comes_turned(packet, (0, 0, 0, 1), ("abcd",)), True)
        self.assertIs(comes_turned(packet, (0, 0, 0, 1), ("dcba",)), False)
        self.assertIs(comes_turned(packet, (0, 0, 0, 1), ("acbd",)), False)

    def test_the_largest_size(self):
        sheets = ("abcdefghi", "bcdefghij", "cdefghijk", "defghijkl")
        packet = Packet(3, 3, sheets)
        goals = tuple(sheet[::-1] for sheet in sheets[::-1])
        self.assertIs(comes_turned(packet, RING, goals), True)
        self.assertIs(comes_turned(packet, (0,) * 9, goals), True)
        self.assertIs(comes_turned(packet, NOTCH, goals), False)
        self.assertIs(comes_turned(packet, STEPS, goals), False)

    def test_invalid_goals(self):
        for goals in NO_GOALS:
            with self.subTest(goals=goals):
                self.fails("InvalidGoals", comes_turned, TWO, ROWS, goals)

    def test_the_pattern_comes_before_the_goals(self):
        for pattern, goals in product(NO_PATTERNS, [TWO.sheets, (), None]):
            with self.subTest(pattern=pattern, goals=goals):
                self.fails("InvalidPattern", comes_turned, TWO, pattern, goals)


class NothingIsKeptTest(SheetTest):

    def test_repeated_calls_are_equal_and_arguments_are_as_before(self):
        packet, some, goals = Packet(2, 2, ("abab", "cccc")), (0, 1), ("baab", "cccc")
        for call, more in [(turnable, ()), (turned, (some,)), (orbits, ()), (comes_turned, (goals,))]:
            self.assertEqual(call(packet, ROWS, *more), call(packet, ROWS, *more))
        wrong = [0]
        self.fails("InvalidPieces", turned, packet, ROWS, wrong)
        self.assertEqual((packet, wrong), (Packet(2, 2, ("abab", "cccc")), [0]))
