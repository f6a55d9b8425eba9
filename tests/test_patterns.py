"""Patterns: points 1, 3 and 4."""

from itertools import product

from sawnsheets.packets import Packet, is_finer, is_pattern, joined, pattern_count, patterns, pieces, saw_length
from tests.support import BAD_SIZES, SIZES, SheetTest, groups, hangs_together, is_good, neighbours, patterns_tried

SMALL_SIZES = [(width, height) for width, height in SIZES if width * height <= 5]
MIDDLE_SIZES = [(width, height) for width, height in SIZES if width * height <= 6]
NO_PATTERNS = [
    (), (0,), (0, 0, 0), (0, 0, 0, 0, 0), (1, 1, 1, 1), (0, 2, 2, 2), (0, 0, 2, 1), (1, 0, 0, 0), (0, 1, 1, 0),
    (-1, -1, -1, -1), (0, -1, -1, -1), (False, False, False, False), (0, 0, True, True), (0, 0, 1, True),
    (0, 0, 0, "0"), (0, 0, 0, None), (0, 0, 0, (0,)), (0, 0, 0, [0]), (0.0, 0.0, 0.0, 0.0), ("a", "a", "a", "a"),
    [0, 0, 0, 0], "0000", None, 0, 7, {}, b"\x00\x00\x00\x00", ((0, 0), (0, 0)),
]


def packet_of_size(width, height):
    return Packet(width, height, ("a" * (width * height),))


class IsPatternTest(SheetTest):

    def test_all_tuples_of_small_sizes(self):
        for width, height in SMALL_SIZES:
            cells = width * height
            for value in product(range(cells + 1), repeat=cells):
                self.assertIs(is_pattern(width, height, value), is_good(width, height, value), (width, height, value))

    def test_all_patterns_of_all_sizes(self):
        for width, height in SIZES:
            for value in patterns_tried(width, height):
                self.assertIs(is_pattern(width, height, value), True, (width, height, value))

    def test_values_that_are_none(self):
        for value in NO_PATTERNS:
            with self.subTest(value=value):
                self.assertIs(is_pattern(2, 2, value), False)

    def test_pieces_must_hang_together_by_sides(self):
        self.assertIs(is_pattern(2, 2, (0, 1, 1, 0)), False)
        self.assertIs(is_pattern(3, 1, (0, 1, 0)), False)
        self.assertIs(is_pattern(3, 2, (0, 0, 1, 0, 1, 1)), True)
        self.assertIs(is_pattern(3, 2, (0, 0, 1, 1, 2, 0)), False)
        self.assertIs(is_pattern(3, 3, (0, 0, 0, 0, 1, 0, 0, 0, 0)), True)
        self.assertIs(is_pattern(3, 3, (0, 1, 0, 1, 1, 1, 0, 1, 0)), False)

    def test_the_end_of_a_row_is_no_neighbour_of_the_next_row(self):
        self.assertIs(is_pattern(2, 2, (0, 1, 1, 2)), False)
        self.assertIs(is_pattern(4, 2, (0, 0, 0, 1, 1, 2, 2, 2)), False)
        self.assertIs(is_pattern(3, 3, (0, 0, 1, 1, 2, 2, 2, 2, 2)), False)

    def test_the_size_matters(self):
        self.assertIs(is_pattern(4, 2, (0, 1, 1, 1, 0, 1, 1, 1)), True)
        self.assertIs(is_pattern(2, 4, (0, 1, 1, 1, 0, 1, 1, 1)), False)

    def test_sizes_out_of_range(self):
        for width, height in BAD_SIZES:
            with self.subTest(width=width, height=height):
                self.assertIs(is_pattern(width, height, (0,) * max(width * height, 1)), False)
                self.assertIs(is_pattern(width, height, ()), False)

    def test_a_list_is_none_and_stays_as_it_is(self):
        value = [0, 0, 1, 1]
        self.assertIs(is_pattern(2, 2, value), False)
        self.assertEqual(value, [0, 0, 1, 1])


class PatternsTest(SheetTest):

    def test_all_sizes_beside_all_numberings_tried(self):
        for width, height in SIZES:
            with self.subTest(width=width, height=height):
                tried = patterns_tried(width, height)
                self.assertEqual(list(patterns(width, height)), tried)
                self.assertEqual(pattern_count(width, height), len(tried))

    def test_counts_beside_all_tuples_tried(self):
        for width, height in SMALL_SIZES:
            cells = width * height
            good = [value for value in product(range(cells), repeat=cells) if is_good(width, height, value)]
            with self.subTest(width=width, height=height):
                self.assertEqual(list(patterns(width, height)), good)
                self.assertEqual(pattern_count(width, height), len(good))

    def test_known_counts(self):
        self.assertEqual([pattern_count(width, 1) for width in range(1, 5)], [1, 2, 4, 8])
        self.assertEqual([pattern_count(width, 2) for width in range(1, 5)], [2, 12, 74, 456])
        self.assertEqual(pattern_count(3, 3), 1434)

    def test_repeated_calls_are_equal(self):
        first = list(patterns(2, 2))
        first.clear()
        self.assertEqual(len(list(patterns(2, 2))), 12)

    def test_bad_sizes_when_the_iteration_begins(self):
        for width, height in BAD_SIZES:
            with self.subTest(width=width, height=height):
                steps = patterns(width, height)
                self.fails("InvalidSize", next, steps)
                self.fails("InvalidSize", pattern_count, width, height)


class PiecesTest(SheetTest):

    def test_all_patterns_of_a_middle_size(self):
        packet = packet_of_size(3, 2)
        for pattern in patterns_tried(3, 2):
            self.assertEqual(pieces(packet, pattern), tuple(tuple(cells) for cells in groups(pattern)))

    def test_ordinary_ones(self):
        self.assertEqual(pieces(packet_of_size(1, 1), (0,)), ((0,),))
        self.assertEqual(pieces(packet_of_size(3, 2), (0, 1, 2, 0, 0, 2)), ((0, 3, 4), (1,), (2, 5)))

    def test_invalid_patterns(self):
        for value in NO_PATTERNS:
            with self.subTest(value=value):
                self.fails("InvalidPattern", pieces, packet_of_size(2, 2), value)

    def test_a_pattern_of_another_size(self):
        self.fails("InvalidPattern", pieces, packet_of_size(2, 4), (0, 1, 1, 1, 0, 1, 1, 1))


class SawLengthTest(SheetTest):

    def test_beside_all_neighbours(self):
        for width, height in MIDDLE_SIZES:
            for pattern in patterns_tried(width, height):
                unlike = [cell for cell in range(width * height) for near in neighbours(width, height, cell)
                          if pattern[cell] != pattern[near]]
                self.assertEqual(saw_length(packet_of_size(width, height), pattern), len(unlike) // 2)

    def test_ordinary_ones(self):
        packet = packet_of_size(3, 3)
        self.assertEqual(saw_length(packet, (0,) * 9), 0)
        self.assertEqual(saw_length(packet, tuple(range(9))), 12)
        self.assertEqual(saw_length(packet, (0, 0, 0, 0, 1, 0, 0, 0, 0)), 4)

    def test_invalid_patterns(self):
        for value in NO_PATTERNS:
            with self.subTest(value=value):
                self.fails("InvalidPattern", saw_length, packet_of_size(2, 2), value)


class JoinedTest(SheetTest):

    def test_pieces_that_fall_apart(self):
        packet = packet_of_size(3, 2)
        around, rows = (0, 0, 0, 0, 1, 0), (0, 0, 0, 1, 1, 1)
        self.assertEqual(joined(packet, around, rows), (0, 0, 0, 1, 2, 3))
        self.assertEqual(joined(packet, rows, around), (0, 0, 0, 1, 2, 3))
        ring, middle = (0, 0, 0, 0, 1, 0, 0, 0, 0), (0, 0, 0, 1, 1, 1, 2, 2, 2)
        self.assertEqual(joined(packet_of_size(3, 3), ring, middle), (0, 0, 0, 1, 2, 3, 4, 4, 4))

    def test_with_the_whole_sheet_and_with_itself(self):
        packet = packet_of_size(2, 2)
        for pattern in patterns_tried(2, 2):
            self.assertEqual(joined(packet, pattern, (0, 0, 0, 0)), pattern)
            self.assertEqual(joined(packet, pattern, pattern), pattern)
            self.assertEqual(joined(packet, (0, 1, 2, 3), pattern), (0, 1, 2, 3))

    def test_beside_the_sides_that_are_sawn(self):
        packet, found = packet_of_size(3, 2), patterns_tried(3, 2)
        for one, other in product(found, repeat=2):
            self.assertEqual(joined(packet, one, other), self.by_sides(3, 2, one, other))

    def by_sides(self, width, height, one, other):
        """Number the cells that can be reached from one another without sides that are sawn."""
        numbers = [None] * (width * height)
        for first in range(width * height):
            if numbers[first] is None:
                number, ahead = max([n for n in numbers if n is not None], default=-1) + 1, [first]
                while ahead:
                    cell = ahead.pop()
                    numbers[cell] = number
                    ahead.extend(near for near in neighbours(width, height, cell) if numbers[near] is None
                                 and one[near] == one[cell] and other[near] == other[cell])
        return tuple(numbers)

    def test_invalid_patterns_for_either(self):
        for value in NO_PATTERNS:
            with self.subTest(value=value):
                self.fails("InvalidPattern", joined, packet_of_size(2, 2), value, (0, 0, 1, 1))
                self.fails("InvalidPattern", joined, packet_of_size(2, 2), (0, 0, 1, 1), value)


class IsFinerTest(SheetTest):

    def test_beside_the_pieces_of_both(self):
        packet, found = packet_of_size(3, 2), patterns_tried(3, 2)
        for one, other in product(found, repeat=2):
            within = all(any(set(cells) <= set(more) for more in groups(other)) for cells in groups(one))
            self.assertIs(is_finer(packet, one, other), within)

    def test_ordinary_ones(self):
        packet, rows, columns = packet_of_size(2, 2), (0, 0, 1, 1), (0, 1, 0, 1)
        self.assertIs(is_finer(packet, rows, rows), True)
        self.assertIs(is_finer(packet, rows, columns), False)
        self.assertIs(is_finer(packet, rows, (0, 0, 0, 0)), True)
        self.assertIs(is_finer(packet, (0, 0, 0, 0), rows), False)

    def test_invalid_patterns_for_either(self):
        for value in NO_PATTERNS:
            with self.subTest(value=value):
                self.fails("InvalidPattern", is_finer, packet_of_size(2, 2), value, (0, 0, 1, 1))
                self.fails("InvalidPattern", is_finer, packet_of_size(2, 2), (0, 0, 1, 1), value)


class OtherWaysTest(SheetTest):
    """The other ways to count are themselves looked at by hand here."""

    def test_hanging_together(self):
        self.assertTrue(hangs_together(3, 2, [0, 1, 4]))
        self.assertFalse(hangs_together(3, 2, [2, 3]))
        self.assertFalse(hangs_together(2, 2, [0, 3]))

    def test_good_tuples(self):
        self.assertEqual(patterns_tried(3, 1), [(0, 0, 0), (0, 0, 1), (0, 1, 1), (0, 1, 2)])
