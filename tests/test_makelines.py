"""[52], of the lines of a make."""

import unittest

from helpers import STRETCH, WALK, raised, random_make, seeded, two_kinds
from tailheard.errors import BadKind, BadLine, BadSeat, BadSpace, BadWords, Twice
from tailheard.makelines import read_make, write_make
from tailheard.makes import Make

LINES = (
    "kind B 2", "standing 0 1 0 1 1", "standing 0 3 0 0 0",
    "kind A 1", "standing 0 2 0 1 0", "standing 1 2 1 1 0",
    "seat A B 7", "seat B B 0",
)
MAKE = two_kinds(space=5, seats=[("A", "B", 7), ("B", "B", 0)])


class WriteTest(unittest.TestCase):
    def test_lines(self):
        self.assertEqual(write_make(MAKE), LINES)
        back = Make("a", [("Z", 3, ((0, 12, (0, 1)), (-3, 1, (1, 0))))])
        self.assertEqual(write_make(back), ("kind Z 3", "standing 0 12 0 1", "standing -3 1 1 0"))

    def test_written_and_read_back(self):
        rng = seeded(13)
        for _ in range(50):
            words = rng.choice(["a", "bz", "abcd"])
            make = random_make(rng, kinds=rng.randint(1, 4), words=words, stride=3)
            lines = write_make(make)
            self.assertIsInstance(lines, tuple)
            self.assertEqual(read_make(words, make.space, lines), make)
            self.assertEqual(read_make(words, make.space, list(lines)), make)


class ReadTest(unittest.TestCase):
    def wrong(self, *lines):
        error = raised(BadLine, read_make, "ab", 5, lines)
        return error.line, error.word

    def test_whole(self):
        self.assertEqual(read_make("ab", 5, LINES), MAKE)
        self.assertEqual(read_make("ab", 0, LINES[:3]), Make("ab", [("B", 2, STRETCH)], 0))

    def test_words_go_first(self):
        for words in ("", "ba", "abcde", None, True, ["a"]):
            self.assertIs(raised(BadWords, read_make, words, None, [None]).words, words)

    def test_first_words(self):
        for line in ("", "end", "kinds A 1", "Kind A 1", " kind A 1", "standing 0 1 0 0 0", "state", "make", None, 0,
                     True, ["kind", "A", "1"], b"kind A 1"):
            self.assertEqual(self.wrong(line), (0, 0), line)
        self.assertEqual(self.wrong(*LINES, "kind C 1"), (8, 0))
        self.assertEqual(self.wrong(*LINES, "standing 0 1 0 0 0"), (8, 0))
        self.assertEqual(self.wrong(*LINES, "end"), (8, 0))
        self.assertEqual(self.wrong("seat A B 1", "kind A 1"), (1, 0))
        self.assertEqual(self.wrong("seat A B 1", "standing 0 1 0 0 0"), (1, 0))
        self.assertEqual(self.wrong(*LINES[:3], ""), (3, 0))

    def test_words_of_a_kind(self):
        for line, word in (("kind", 1), ("kind A", 2), ("kind a 1", 1), ("kind AB 1", 1), ("kind  A 1", 1),
                           ("kind A 0", 2), ("kind A 4", 2), ("kind A 01", 2), ("kind A +1", 2), ("kind A -1", 2),
                           ("kind A 1 ", 3), ("kind A 1 1", 3), ("kind . 1", 1), ("kind A x", 2), ("kind A ", 2),
                           ("kind 1 A", 1), ("kind A 1.0", 2), ("kind A 9999999999999999999999", 2)):
            self.assertEqual(self.wrong(*LINES[:3], line), (3, word), line)

    def test_words_of_a_standing(self):
        for line, word in (("standing", 1), ("standing 0", 2), ("standing 0 1", 3), ("standing 0 1 0", 4),
                           ("standing 0 1 0 0", 5), ("standing 0 1 0 0 0 0", 6), ("standing 0 1 0 0 0 x", 6),
                           ("standing 0 1 0 0 0 ", 6), ("standing 4 1 0 0 0", 1), ("standing -4 1 0 0 0", 1),
                           ("standing -0 1 0 0 0", 1), ("standing 00 1 0 0 0", 1), ("standing +1 1 0 0 0", 1),
                           ("standing - 1 0 0 0", 1), ("standing 0 0 0 0 0", 2), ("standing 0 13 0 0 0", 2),
                           ("standing 0 -1 0 0 0", 2), ("standing 0 1 6 0 0", 3), ("standing 0 1 0 -1 0", 4),
                           ("standing 0 1 0 0 05", 5), ("standing 0 1  0 0", 3), ("standing 0 1 0 0 a", 5),
                           ("standing 9 0 9", 1)):
            self.assertEqual(self.wrong("kind A 1", line), (1, word), line)
        self.assertEqual(raised(BadKind, read_make, "ab", 5, ("kind A 1", "standing -3 12 5 5 5")).number, 0)
        # As many words behind the body as there are signs: with one word it is two.
        self.assertEqual(read_make("a", 5, ("kind A 1", "standing 0 1 0 0")).words, "a")
        self.assertEqual(raised(BadLine, read_make, "a", 5, ("kind A 1", "standing 0 1 0 0 0")).word, 5)
        self.assertEqual(raised(BadLine, read_make, "abcd", 5, ("kind A 1", "standing 0 1 0 0 0 0")).word, 7)

    def test_words_of_a_seat(self):
        for line, word in (("seat", 1), ("seat A", 2), ("seat A B", 3), ("seat a B 1", 1), ("seat A b 1", 2),
                           ("seat A B 41", 3), ("seat A B -1", 3), ("seat A B 00", 3), ("seat A B 1 1", 4),
                           ("seat AB 1", 1), ("seat  A B 1", 1)):
            self.assertEqual(self.wrong(*LINES[:6], line), (6, word), line)

    def test_lines_that_are_no_strings(self):
        for line in (None, 0, True, ["seat", "A", "B", "1"], ("seat",)):
            self.assertEqual(self.wrong(*LINES, line), (8, 0))

    def test_errors_of_the_make_go_behind_all_lines(self):
        self.assertEqual(raised(BadKind, read_make, "ab", None, ()).number, -1)
        self.assertEqual(raised(BadKind, read_make, "ab", None, ("seat A B 1",)).number, -1)
        self.assertEqual(raised(BadKind, read_make, "ab", None, LINES[:4]).number, 1)
        self.assertEqual(raised(BadKind, read_make, "ab", 5, ("kind A 1", *LINES[1:3] * 4)).number, 0)
        five = tuple(line for name in "ABCDE" for line in (f"kind {name} 1", "standing 0 1 0 0 0"))
        self.assertEqual(raised(BadKind, read_make, "ab", 5, five).number, -1)
        self.assertEqual(raised(Twice, read_make, "ab", None, LINES[:3] * 2).name, "B")
        for space in (-1, 21, True, None, "5"):
            self.assertIs(raised(BadSpace, read_make, "ab", space, LINES[:6] + ("seat A C 1",)).space, space)
        self.assertEqual(raised(BadSeat, read_make, "ab", 5, LINES + ("seat A C 1",)).number, 2)
        self.assertEqual(raised(BadSeat, read_make, "ab", 5, LINES + LINES[6:7]).number, 2)
        self.assertEqual(self.wrong(*LINES[:4], "?"), (4, 0))
        self.assertEqual(self.wrong(*LINES, "seat A C 1", "seat A B"), (9, 3))


class SameDrillTest(unittest.TestCase):
    def test_drills(self):
        self.assertEqual(read_make("ab", 5, LINES)["A"].standings, WALK)


if __name__ == "__main__":
    unittest.main()
