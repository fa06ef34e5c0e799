"""[26] clashes, shuffles, their ends, border rows."""

import itertools
import unittest
from math import comb

from helpers import STRETCH, WALK, all_texts, raised, random_standings, seeded
from tailheard.clashes import border_row, clashes, shuffle_ends, shuffles
from tailheard.drills import Drill
from tailheard.errors import BadCalling, BadWords, NoStanding, NotSteady

# `a` and `b` clash at rest, not elsewhere; `c` goes round.
THREE = Drill("abc", ((0, 1, (0, 1, 2, 0)), (0, 1, (1, 1, 1, 2)), (0, 1, (2, 2, 2, 1))))


def plain_shuffles(first, second):
    """All shuffles, each once, ascending, by the places of the letters of the first string."""
    whole = len(first) + len(second)
    found = set()
    for places in itertools.combinations(range(whole), len(first)):
        one, two = iter(first), iter(second)
        found.add("".join(next(one) if at in places else next(two) for at in range(whole)))
    return sorted(found)


class ClashTest(unittest.TestCase):
    def test_clashes(self):
        self.assertEqual(clashes(Drill("ab", WALK)), ((0, "a", "b"), (1, "a", "b")))
        self.assertEqual(clashes(Drill("ab", STRETCH)), ())
        self.assertEqual(clashes(Drill("a", ((0, 1, (0, 0)),))), ())
        self.assertEqual(clashes(THREE), ((0, "a", "b"), (0, "a", "c"), (0, "b", "c")))

    def test_against_plain_lookers(self):
        rng = seeded(170)
        for _ in range(50):
            drill = Drill("abc", random_standings(rng, 4))
            found = [(at, one, two) for at in range(len(drill)) for one, two in ("ab", "ac", "bc")
                     if drill(at, one + two) != drill(at, two + one)]
            self.assertEqual(clashes(drill), tuple(sorted(found)))


class ShuffleTest(unittest.TestCase):
    def test_shuffles(self):
        self.assertEqual(list(shuffles("ab", "c")), ["abc", "acb", "cab"])
        self.assertEqual(list(shuffles("", "")), [""])
        self.assertEqual(list(shuffles("ba", "")), ["ba"])
        self.assertEqual(list(shuffles("", "ca")), ["ca"])

    def test_the_same_letters_in_both(self):
        self.assertEqual(list(shuffles("ab", "ab")), ["aabb", "abab"])
        self.assertEqual(list(shuffles("a" * 8, "a" * 8)), ["a" * 16])
        self.assertEqual(list(shuffles("ab", "ba")), ["abab", "abba", "baab", "baba"])

    def test_against_plain_lookers(self):
        rng = seeded(171)
        for _ in range(60):
            first, second = ["".join(rng.choice("abc") for _ in range(rng.randint(0, 5))) for _ in range(2)]
            self.assertEqual(list(shuffles(first, second)), plain_shuffles(first, second))

    def test_many(self):
        self.assertEqual(len(list(shuffles("abcdefgh", "ijklmnop"))), comb(16, 8))

    def test_one_by_one(self):
        told = shuffles("abcdefgh", "ijklmnop")
        self.assertEqual([next(told), next(told)], ["abcdefghijklmnop", "abcdefgihjklmnop"])
        # Nothing is done before it is iterated.
        shuffles(None, None)


class EndsTest(unittest.TestCase):
    def test_ends(self):
        drill = Drill("ab", WALK)
        self.assertEqual(shuffle_ends(drill, 0, "a", "b"), (0, 1))
        self.assertEqual(shuffle_ends(drill, 0, "ab", "b"), (0,))
        self.assertEqual(shuffle_ends(drill, 1, "", ""), (1,))
        self.assertEqual(shuffle_ends(drill, 1, "b", ""), (0,))
        self.assertEqual(shuffle_ends(drill, 0, "", "a"), (1,))

    def test_against_plain_lookers(self):
        rng = seeded(172)
        for _ in range(60):
            drill = Drill("abc", random_standings(rng, 4, most=6))
            first, second = ["".join(rng.choice("abc") for _ in range(rng.randint(0, 5))) for _ in range(2)]
            at = rng.randrange(len(drill))
            ends = sorted({drill(at, text) for text in plain_shuffles(first, second)})
            self.assertEqual(shuffle_ends(drill, at, first, second), tuple(ends))

    def test_errors(self):
        drill = Drill("ab", WALK)
        for standing in (-1, 2, True, None, "0"):
            self.assertIs(raised(NoStanding, shuffle_ends, drill, standing, None, None).standing, standing)
        for text, number in ((".", 0), ("a.", 1), ("abc", 2), (None, -1), (("a",), -1), ("a" * 9, -1), (["a"], -1)):
            self.assertEqual(raised(BadCalling, shuffle_ends, drill, 0, text, None).number, number)
            self.assertEqual(raised(BadCalling, shuffle_ends, drill, 0, "a" * 8, text).number, number)
        self.assertEqual(shuffle_ends(drill, 0, "a" * 8, "b" * 8), (0, 1))


class BorderTest(unittest.TestCase):
    def test_rows(self):
        # `cacb` and `cabc` lead to the standing 2, `cbac` to 1, and `bcac` to 2 again.
        self.assertEqual(border_row(THREE, 0, "a", "b"), (1, 2))
        self.assertEqual(border_row(THREE, 0, "", "b"), (2,))
        self.assertEqual(border_row(THREE, 1, "", "b"), (1,))
        self.assertEqual(border_row(THREE, 0, "cac", "b"), (2, 1, 2))

    def test_standings_that_come_again(self):
        # Standing 0 leads on by `a`; `b` halts at an even standing and lets an odd one be.
        rows = ((0, 1, (0, 1, 3)), (0, 1, (1, 2, 1)), (0, 1, (2, 0, 3)), (0, 1, (3, 3, 3)))
        drill = Drill("ab", rows)
        found = [drill(0, "a" * (5 - at) + "b" + "a" * at) for at in range(6)]
        self.assertEqual(found, [3, 2, 3, 3, 2, 3])
        self.assertEqual(border_row(drill, 0, "aaaaa", "b"), (3, 2, 3, 2, 3))

    def test_against_plain_lookers(self):
        rng = seeded(173)
        for _ in range(60):
            drill = Drill("abc", random_standings(rng, 4, most=6, steady=True))
            words = "".join(rng.choice("abc") for _ in range(rng.randint(0, 12)))
            word = rng.choice("abc")
            at = rng.randrange(len(drill))
            ends = [drill(at, words[:cut] + word + words[cut:]) for cut in range(len(words), -1, -1)]
            self.assertEqual(border_row(drill, at, words, word), tuple(one for one, _ in itertools.groupby(ends)))

    def test_sixty_words(self):
        drill = Drill("ab", WALK)
        self.assertEqual(border_row(drill, 0, "a" * 60, "b"), (0, 1))
        self.assertEqual(raised(BadCalling, border_row, drill, 0, "a" * 61, "b").number, -1)

    def test_errors(self):
        drill = Drill("ab", WALK)
        loose = Drill("ab", STRETCH)
        for standing in (-1, 2, True, None, "0"):
            self.assertIs(raised(NoStanding, border_row, loose, standing, None, None).standing, standing)
        self.assertEqual(raised(NotSteady, border_row, loose, 0, None, None).name, ".")
        for text, number in ((".", 0), ("ab.", 2), ("c", 0), (None, -1), (("a",), -1)):
            self.assertEqual(raised(BadCalling, border_row, drill, 0, text, None).number, number)
        for word in ("", ".", "c", "ab", None, True, ("a",)):
            self.assertIs(raised(BadWords, border_row, drill, 0, "ab", word).words, word)

    def test_texts(self):
        # All columns long enough have the same borders: the last standing is that of all groups behind.
        drill = Drill("ab", WALK)
        for text in all_texts("ab", 4):
            self.assertEqual(border_row(drill, 0, text, "b")[-1], drill(0, "b" + text))


if __name__ == "__main__":
    unittest.main()
