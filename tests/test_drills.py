"""[2] words, callings, drills."""

import unittest

from helpers import STRETCH, WALK, raised
from tailheard.drills import Drill
from tailheard.errors import BadCalling, BadStanding, BadWords, NoStanding

REST = (0, 1, (0, 0))


def drill_of(*rows):
    return Drill("a", rows)


class WordsTest(unittest.TestCase):
    def test_good_words(self):
        for words in ("a", "z", "ab", "az", "abyz"):
            rest = (0, 1, (0,) * (len(words) + 1))
            self.assertEqual(Drill(words, (rest,)).words, words)

    def test_bad_words(self):
        for words in ("", "ba", "aa", "abcde", "A", ".", "a.", "a b", None, 0, True, ("a", "b"), ["a"], b"a"):
            error = raised(BadWords, Drill, words, None)
            self.assertIs(error.words, words)

    def test_words_go_ahead_of_standings(self):
        raised(BadWords, Drill, "ba", ())
        raised(BadStanding, Drill, "ab", ())


class StandingsTest(unittest.TestCase):
    def wrong(self, rows):
        return raised(BadStanding, Drill, "a", rows).number

    def test_bounds(self):
        rest = (0, 12, (0, 5))
        rows = (rest, (-3, 1, (5, 0)), (3, 12, (0, 0)), REST, REST, REST)
        self.assertEqual(Drill("a", rows).standings, rows)
        self.assertEqual(self.wrong((REST,) * 7), -1)
        self.assertEqual(len(drill_of(*(REST,) * 6)), 6)
        self.assertEqual(len(drill_of(REST)), 1)

    def test_no_tuple_of_so_many(self):
        for rows in ((), [], None, 0, True, "abc", {0: REST}, (REST,) * 7):
            self.assertEqual(self.wrong(rows), -1)

    def test_first_bad_standing(self):
        bad = [None, 5, "abc", (), (0, 1), (0, 1, (0, 0), 0), (4, 1, (0, 0)), (-4, 1, (0, 0)), (0, 0, (0, 0)),
               (0, 13, (0, 0)), (True, 1, (0, 0)), (0, True, (0, 0)), (0, 1, (0,)), (0, 1, (0, 0, 0)),
               (0, 1, (0, 2)), (0, 1, (0, -1)), (0, 1, (0, True)), (0, 1, (0, False)), (0, 1, "00"), (0, 1, None),
               ("0", 1, (0, 0)), (None, 1, (0, 0)), ([0], 1, (0, 0))]
        for row in bad:
            self.assertEqual(self.wrong((REST, row)), 1, row)
            self.assertEqual(self.wrong((row, row)), 0, row)

    def test_rest(self):
        self.assertEqual(self.wrong(((1, 1, (0, 0)),)), 0)
        self.assertEqual(self.wrong(((-1, 1, (0, 0)), (9, 1, (0, 0)))), 0)
        self.assertEqual(self.wrong(((0, 1, (1, 0)), REST)), 0)
        # Only rest must be at rest, and only silence must lead it to itself.
        drill_of((0, 1, (0, 1)), (1, 1, (0, 0)))

    def test_lists_are_kept_as_tuples(self):
        rows = [[0, 1, [0, 1]], [1, 2, [1, 0]]]
        drill = Drill("a", rows)
        rows[1][2][0] = 0
        rows.append(REST)
        self.assertEqual(drill.standings, ((0, 1, (0, 1)), (1, 2, (1, 0))))
        self.assertEqual(list(drill), list(drill.standings))
        self.assertIsInstance(drill[1][2], tuple)


class DrillTest(unittest.TestCase):
    def test_looking_up(self):
        drill = Drill("ab", WALK)
        self.assertEqual(Drill.REST, 0)
        self.assertEqual(drill.REST, 0)
        self.assertEqual(len(drill), 2)
        self.assertEqual([drill[0], drill[1]], list(WALK))
        self.assertEqual(tuple(drill), WALK)
        for standing in (-1, 2, True, False, None, "0", [0], (0,), 10 ** 39):
            for call in (lambda: drill[standing], lambda: drill(standing, "?"), lambda: drill.walk(standing, None)):
                self.assertIs(raised(NoStanding, call).standing, standing)

    def test_equality(self):
        self.assertEqual(Drill("ab", WALK), Drill("ab", list(WALK)))
        self.assertNotEqual(Drill("ab", WALK), Drill("ac", WALK))
        self.assertNotEqual(Drill("ab", WALK), Drill("ab", STRETCH))
        self.assertFalse(Drill("ab", WALK) == WALK)
        self.assertFalse(Drill("ab", WALK) == None)  # noqa: E711

    def test_steady(self):
        self.assertIs(Drill("ab", WALK).is_steady, True)
        self.assertIs(Drill("ab", STRETCH).is_steady, False)
        self.assertIs(Drill("a", ((0, 1, (0, 0)), (0, 1, (0, 1)))).is_steady, False)

    def test_callings(self):
        drill = Drill("ab", WALK)
        self.assertEqual(drill(0, ""), 0)
        self.assertEqual(drill(1, ""), 1)
        self.assertEqual(drill(0, "a"), 1)
        self.assertEqual(drill(0, "a..b"), 0)
        self.assertEqual(drill(1, ".b.a."), 1)
        self.assertEqual(drill.walk(0, ""), 0)
        self.assertEqual(drill.walk(1, ""), 0)
        self.assertEqual(drill.walk(0, "a..b."), 3)
        self.assertEqual(drill.walk(1, "..b"), 2)
        back = Drill("z", ((0, 1, (0, 1)), (-3, 2, (2, 0)), (2, 2, (1, 1))))
        self.assertEqual(back.walk(0, "z..."), -3 + 2 - 3 + 2)
        self.assertEqual(back(0, "z..."), 2)

    def test_bad_callings(self):
        drill = Drill("ab", WALK)
        for calling, at in (("c", 0), ("abc", 2), ("a b", 1), ("aA", 1), (".b-", 2), (None, -1), (0, -1), (True, -1),
                            (["a"], -1), (("a",), -1), ("." * 401, -1), ("?" * 401, -1)):
            self.assertEqual(raised(BadCalling, drill, 0, calling).number, at)
            self.assertEqual(raised(BadCalling, drill.walk, 0, calling).number, at)
        self.assertEqual(drill.walk(0, "a" * 400), 400)
        self.assertEqual(drill(0, "." * 400), 0)
        self.assertEqual(raised(BadCalling, drill, 0, "." * 399 + "c").number, 399)

    def test_after_an_error_all_is_as_before(self):
        drill = Drill("ab", WALK)
        raised(NoStanding, drill, 7, "a")
        raised(BadCalling, drill, 0, "aac")
        self.assertEqual(drill, Drill("ab", WALK))
        self.assertEqual(drill(0, "a"), 1)


if __name__ == "__main__":
    unittest.main()
