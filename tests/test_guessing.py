"""Somebody who sees single cells: points 1 and 25."""

from itertools import product
from random import Random

from sawnsheets.guessing import Guess
from sawnsheets.packets import Packet
from tests.support import NO_PATTERNS, SheetTest, letters_of, patterns_tried, sheets_by_cut

TWO = Packet(2, 2, ("abab", "cccc"))
ROWS, CELLS = (0, 0, 1, 1), (0, 1, 2, 3)
NINE_CELLS = tuple(range(9))
PACKETS = [
    Packet(1, 1, ("a",)), Packet(1, 1, ("b", "a", "b", "a")), Packet(2, 1, ("ab", "cd")),
    Packet(2, 1, ("ba", "ab", "bb")), Packet(1, 3, ("abc", "cba", "aba")), Packet(3, 1, ("aba", "cbc")),
    Packet(2, 2, ("abab", "cccc")), Packet(2, 2, ("bacb", "abca", "bbca")), Packet(2, 2, ("abca",)),
    Packet(2, 2, ("abcd", "efgh", "abgh", "efcd")), Packet(3, 2, ("abcabc", "cabbca")),
]
NO_INDEXES = [-1, 9, 10 ** 9, True, False, None, "0", 0.0, (0,), [0]]


def sure_tried(known):
    """Return the letters that all known sheets have in common."""
    return tuple("".join(column[0] if len(set(column)) == 1 else "?" for column in zip(*texts))
                 for texts in zip(*known))


def best_look_tried(packet, known):
    """Return the first look that leaves the fewest known sheets in the worst case."""
    best = None
    for sheet, cell in product(range(len(packet)), range(packet.cells)):
        letters = [sheets[sheet][cell] for sheets in known]
        worst = max(letters.count(letter) for letter in letters)
        if best is None or worst < best[0]:
            best = (worst, (sheet, cell))
    return best[1]


class ExamplesTest(SheetTest):

    def test_somebody_who_sees_single_cells(self):
        self.check_example("""
>>> from sawnsheets.guessing import Guess
>>> from sawnsheets.packets import Packet
>>> one = Packet(2, 1, ("ab", "cd"))
>>> guess = Guess(one, (0, 1))
>>> [guess.count_left, guess.best_look(), guess.seen(0, 0, "c"), guess.sure()]
[4, (0, 0), 2, ('c?', 'a?')]
""")

    def test_a_letter_that_is_not_there(self):
        self.check_example("""
>>> from sawnsheets.guessing import Guess
>>> from sawnsheets.packets import Packet
>>> one = Packet(2, 1, ("ab", "cd"))
>>> Guess(one, (0, 1)).seen(0, 0, "z")
raises NoPacket()
""")


class GuessTest(SheetTest):

    def check_guess(self, guess, packet, known, calls):
        told = (packet.sheets, calls)
        self.assertEqual(guess.count_left, len(known), told)
        self.assertEqual(guess.told_so_far, calls, told)
        self.assertEqual(guess.sure(), sure_tried(known), told)
        self.assertEqual(guess.best_look(), best_look_tried(packet, known), told)

    def test_beside_all_packets_tried(self):
        random = Random(8)
        for packet in PACKETS:
            for pattern in patterns_tried(packet.width, packet.height)[::1 if packet.cells < 6 else 9]:
                guess, known, calls = Guess(packet, pattern), sheets_by_cut(packet, pattern), []
                self.check_guess(guess, packet, known, calls)
                letters = letters_of(packet) + ["q"]
                for _ in range(6):
                    call = (random.randrange(len(packet)), random.randrange(packet.cells), random.choice(letters))
                    fitting = [sheets for sheets in known if sheets[call[0]][call[1]] == call[2]]
                    if fitting:
                        known, calls = fitting, [*calls, call]
                        self.assertEqual(guess.seen(*call), len(known))
                    else:
                        self.fails("NoPacket", guess.seen, *call)
                    self.check_guess(guess, packet, known, calls)

    def test_the_best_looks_until_all_is_sure(self):
        packet = Packet(2, 2, ("abcd", "efgh", "ijkl"))
        guess = Guess(packet, CELLS)
        hidden = ("ebkd", "ajgl", "ifch")
        looks = []
        while guess.count_left > 1:
            sheet, cell = guess.best_look()
            looks.append((sheet, cell))
            guess.seen(sheet, cell, hidden[sheet][cell])
        self.assertEqual(guess.sure(), hidden)
        self.assertEqual(looks, [(0, 0), (0, 1), (0, 2), (0, 3), (1, 0), (1, 1), (1, 2), (1, 3)])
        self.assertEqual(guess.best_look(), (0, 0))

    def test_the_best_look_is_not_always_the_first_one(self):
        # The first cell has the same letter on all sheets, and the second one on two of three.
        self.assertEqual(Guess(Packet(3, 1, ("aab", "aac", "abd")), (0, 1, 2)).best_look(), (0, 2))
        self.assertEqual(Guess(Packet(2, 1, ("ab", "ac")), (0, 1)).best_look(), (0, 1))
        # In the worst case four of six packets are left behind a look at the first cell, and two behind the second.
        self.assertEqual(Guess(Packet(2, 1, ("ax", "ay", "bz")), (0, 0)).best_look(), (0, 1))

    def test_the_largest_packet(self):
        packet = Packet(3, 3, ("abcdefghi", "bcdefghij", "cdefghijk", "defghijkl"))
        guess = Guess(packet, NINE_CELLS)
        self.assertEqual(guess.count_left, 24 ** 9)
        self.assertEqual(guess.seen(3, 8, "i"), 6 * 24 ** 8)
        self.assertEqual(guess.best_look(), (0, 0))
        self.assertEqual(guess.sure(), ("?" * 9, "?" * 9, "?" * 9, "?" * 8 + "i"))

    def test_different_packets_count_once(self):
        guess = Guess(Packet(2, 1, ("ab", "ab", "ac")), (0, 1))
        self.assertEqual(guess.count_left, 3)
        self.assertEqual(guess.sure(), ("a?", "a?", "a?"))
        self.assertEqual(guess.seen(1, 1, "c"), 1)
        self.assertEqual(guess.sure(), ("ab", "ac", "ab"))

    def test_a_look_at_what_is_sure(self):
        guess = Guess(TWO, ROWS)
        self.assertEqual(guess.seen(0, 0, "a"), 2)
        self.assertEqual(guess.sure(), ("ab??", "cc??"))
        self.assertEqual(guess.seen(0, 1, "b"), 2)
        self.assertEqual(guess.seen(0, 0, "a"), 2)
        self.assertEqual(guess.seen(1, 0, "c"), 2)
        self.assertEqual(guess.told_so_far, [(0, 0, "a"), (0, 1, "b"), (0, 0, "a"), (1, 0, "c")])
        single = Guess(Packet(1, 1, ("a",)), (0,))
        self.assertEqual((single.count_left, single.sure(), single.best_look()), (1, ("a",), (0, 0)))
        self.assertEqual(single.seen(0, 0, "a"), 1)


class ErrorsTest(SheetTest):

    def test_invalid_patterns(self):
        for pattern in NO_PATTERNS:
            with self.subTest(pattern=pattern):
                self.fails("InvalidPattern", Guess, TWO, pattern)

    def check_fails(self, guess, kind, *arguments):
        """Check that `seen` fails and changes nothing."""
        before = (guess.count_left, guess.told_so_far, guess.sure(), guess.best_look())
        self.fails(kind, guess.seen, *arguments)
        self.assertEqual((guess.count_left, guess.told_so_far, guess.sure(), guess.best_look()), before)

    def test_unknown_sheets_and_cells(self):
        guess = Guess(TWO, ROWS)
        guess.seen(0, 0, "c")
        for index in NO_INDEXES:
            with self.subTest(index=index):
                self.check_fails(guess, "UnknownSheet", index, 0, "c")
                self.check_fails(guess, "UnknownCell", 0, index, "c")
                self.check_fails(guess, "UnknownSheet", index, index, "z")
                self.check_fails(guess, "UnknownCell", 0, index, "z")
        self.check_fails(guess, "UnknownSheet", 2, 0, "c")
        self.check_fails(guess, "UnknownCell", 0, 4, "c")

    def test_letters_that_leave_no_packet(self):
        guess = Guess(TWO, ROWS)
        for letter in ["z", "b", "A", "", "ab", "?", None, 1, True]:
            with self.subTest(letter=letter):
                self.check_fails(guess, "NoPacket", 0, 0, letter)
        guess.seen(0, 0, "a")
        self.check_fails(guess, "NoPacket", 0, 1, "c")
        self.check_fails(guess, "NoPacket", 1, 0, "a")
        self.check_fails(guess, "NoPacket", 0, 0, "c")
        self.assertEqual(guess.seen(0, 2, "c"), 1)


class NothingIsSharedTest(SheetTest):

    def test_the_list_is_new_for_each_reading(self):
        guess = Guess(TWO, ROWS)
        guess.seen(0, 0, "a")
        guess.told_so_far.append((1, 1, "c"))
        guess.told_so_far.clear()
        self.assertEqual(guess.told_so_far, [(0, 0, "a")])
        told = guess.told_so_far
        guess.seen(1, 2, "a")
        self.assertEqual(told, [(0, 0, "a")])

    def test_two_guesses_do_not_meet(self):
        one, other = Guess(TWO, ROWS), Guess(TWO, ROWS)
        one.seen(0, 0, "a")
        self.assertEqual((other.count_left, other.told_so_far, other.sure()), (4, [], ("????", "????")))
        self.assertEqual(TWO, Packet(2, 2, ("abab", "cccc")))

    def test_asking_changes_nothing(self):
        guess = Guess(TWO, ROWS)
        for _ in range(2):
            self.assertEqual((guess.sure(), guess.best_look(), guess.count_left), (("????", "????"), (0, 0), 4))
        for name in ["count_left", "told_so_far"]:
            with self.assertRaises(AttributeError):
                setattr(guess, name, None)
