"""[50] drills told back: samples, sketches, what all of them show."""

import itertools
import unittest

from helpers import raised, seeded
from tailheard.errors import BadCalling, BadSample, BadTable, BadWords, TooLong
from tailheard.sketches import ToldDrill, fits


def shown(words, sketch, calling):
    standing, seen = 0, ""
    for sign in calling:
        standing = sketch[standing][1][("." + words).index(sign)]
        seen += sketch[standing][0]
    return seen


def all_sketches(words, many, letters):
    """All sketches with so many standings and looks of some letters."""
    rows = [row for row in itertools.product(range(many), repeat=len(words) + 1)]
    for nexts in itertools.product(rows, repeat=many):
        if nexts[0][0] == 0:
            for looks in itertools.product(letters, repeat=many):
                yield tuple(zip(looks, nexts))


SAMPLES = [("ab.a", "wrrw"), ("b.", "rr")]
SKETCH = (("r", (0, 1, 0)), ("w", (1, 1, 0)))


class FitsTest(unittest.TestCase):
    def test_fits(self):
        self.assertIs(fits("ab", SKETCH, SAMPLES), True)
        self.assertIs(fits("ab", [["r", [0, 1, 0]], ["w", [1, 1, 0]]], [list(pair) for pair in SAMPLES]), True)
        self.assertIs(fits("ab", SKETCH, SAMPLES + [("a.", "ww")]), True)
        self.assertIs(fits("ab", SKETCH, SAMPLES + [("a.", "wr")]), False)
        self.assertIs(fits("ab", (("r", (0, 0, 0)),), SAMPLES), False)
        self.assertIs(fits("a", (("r", (0, 0)),), [("", "")]), True)
        # The look at rest is not seen ahead of the first sign.
        self.assertIs(fits("a", (("q", (0, 1)), ("w", (1, 1))), [("a..", "www")]), True)

    def test_words(self):
        for words in ("", "ba", "abc", "abcd", "aa", None, True, ("a",), "A"):
            self.assertIs(raised(BadWords, fits, words, None, None).words, words)
            self.assertIs(raised(BadWords, ToldDrill, words, None).words, words)

    def test_sketches(self):
        for sketch in ((), SKETCH * 2, None, "", 0, {}):
            self.assertEqual(raised(BadTable, fits, "ab", sketch, None).number, -1)
        for row in (None, (), ("w",), ("w", (0, 0, 0), 0), ("W", (0, 0, 0)), ("ww", (0, 0, 0)), ("", (0, 0, 0)),
                    (1, (0, 0, 0)), (".", (0, 0, 0)), ("w", (0, 0)), ("w", (0, 0, 0, 0)), ("w", "000"),
                    ("w", (0, 0, 2)), ("w", (0, 0, -1)), ("w", (0, True, 0)), ("w", None), "w0"):
            self.assertEqual(raised(BadTable, fits, "ab", (row, SKETCH[1]), None).number, 0, row)
            self.assertEqual(raised(BadTable, fits, "ab", (SKETCH[0], row), None).number, 1, row)
        self.assertEqual(raised(BadTable, fits, "ab", (("r", (1, 0, 0)), SKETCH[1]), None).number, 0)
        self.assertTrue(fits("ab", (SKETCH[0], ("w", (0, 1, 0)), ("x", (2, 2, 2))), [("a", "w")]))

    def test_samples(self):
        for call in (lambda samples: fits("ab", SKETCH, samples), lambda samples: ToldDrill("ab", samples)):
            for samples in ((), (("", ""),) * 7, None, "", 0, {}):
                self.assertEqual(raised(BadSample, call, samples).number, -1)
            for row in (None, (), ("a",), ("a", "w", ""), ("c", "w"), ("a", "W"), ("a", "ww"), ("ab", "w"), ("a", ""),
                        (None, "w"), ("a", None), (("a",), "w"), ("a", ("w",)), ("a", "."), "aw", ("." * 401, "r" * 401)):
                self.assertEqual(raised(BadSample, call, (row, ("", ""))).number, 0, row)
                self.assertEqual(raised(BadSample, call, (("." * 400, "r" * 400), row)).number, 1, row)
            for samples, number in ([[("." * 25, "r" * 25)], 25], [[("." * 20, "r" * 20), ("." * 5, "r" * 5)], 25],
                                    [[("." * 400, "r" * 400)] * 6, 2400]):
                self.assertEqual(raised(TooLong, call, samples).number, number)
            call([("." * 24, "r" * 24)])
            call([("." * 4, "r" * 4)] * 6)
        self.assertEqual(raised(BadTable, fits, "ab", (), ()).number, -1)
        self.assertEqual(raised(BadSample, fits, "ab", SKETCH, ()).number, -1)


class ToldDrillTest(unittest.TestCase):
    def test_one_standing(self):
        told = ToldDrill("ab", [("a.b", "xxx")])
        self.assertEqual((told.fewest, told.sketch), (1, (("x", (0, 0, 0)),)))
        self.assertEqual(told.sure_looks("ba."), ("x", "x", "x"))
        self.assertEqual(told.sure_looks(""), ())

    def test_nothing_seen(self):
        told = ToldDrill("a", [("", "")])
        self.assertEqual(told.fewest, 1)
        self.assertTrue(fits("a", told.sketch, [("", "")]))
        self.assertEqual(told.sure_looks("a."), (None, None))

    def test_two_standings(self):
        told = ToldDrill("ab", SAMPLES)
        self.assertEqual(told.fewest, 2)
        self.assertTrue(fits("ab", told.sketch, SAMPLES))
        # At rest it can look like r or like w; then what a second `a` does has not been seen, or what `b` does.
        self.assertEqual(told.sure_looks("aab.b."), ("w", None, "r", "r", None, None))
        self.assertEqual(told.sure_looks("abab.."), ("w", "r", "w", "r", "r", "r"))

    def test_three_standings_and_none(self):
        told = ToldDrill("a", [("aaa", "xyz")])
        self.assertEqual(told.fewest, 3)
        self.assertEqual(told.sure_looks("aa"), ("x", "y"))
        none = ToldDrill("a", [("aaaa", "wxyz")])
        self.assertEqual((none.fewest, none.sketch, none.sure_looks("aa.")), (None, None, (None, None, None)))
        self.assertEqual(none.sure_looks(""), ())
        again = ToldDrill("a", [("a", "x"), ("a", "y")])
        self.assertEqual((again.fewest, again.sketch), (None, None))
        # Silence at rest keeps it, so what is seen then must stay the same.
        self.assertIsNone(ToldDrill("a", [("..", "xy")]).fewest)

    def test_what_follows_from_few_standings(self):
        told = ToldDrill("a", [("a.", "xy")])
        # With two standings, the one that looks like y can be none but rest, to which silence leads back.
        self.assertEqual(told.fewest, 2)
        self.assertEqual(told.sure_looks("a."), ("x", "y"))
        self.assertEqual(told.sure_looks(".a"), ("y", "x"))
        self.assertEqual(told.sure_looks("aa"), ("x", None))

    def test_against_a_plain_looker(self):
        rng = seeded(541)
        found = {}
        for _ in range(60):
            words = rng.choice(["a", "a", "ab"])
            many = 2 if words == "ab" else 3
            sketch = rng.choice(list(itertools.islice(all_sketches(words, many, "xy"), 0, None, 7)))
            samples = []
            for _ in range(rng.randint(1, 3)):
                calling = "".join(rng.choice("." + words) for _ in range(rng.randint(0, 5)))
                samples.append((calling, shown(words, sketch, calling)))
            told = ToldDrill(words, samples)
            calling = "".join(rng.choice("." + words) for _ in range(5))
            # The letter z stands for a look that nobody has seen.
            for number in range(1, many + 1):
                fitting = [each for each in all_sketches(words, number, "xyz") if all(
                    shown(words, each, text) == sights for text, sights in samples)]
                if fitting:
                    break
            found[number] = True
            self.assertEqual(told.fewest, number)
            self.assertTrue(fits(words, told.sketch, samples))
            self.assertEqual(len(told.sketch), number)
            looks = [{shown(words, each, calling)[at] for each in fitting} for at in range(5)]
            self.assertEqual(told.sure_looks(calling), tuple(each.pop() if len(each) == 1 else None for each in looks))
        self.assertEqual(sorted(found), [1, 2, 3])

    def test_bad_callings(self):
        told = ToldDrill("ab", SAMPLES)
        for calling, number in ((None, -1), (True, -1), (("a",), -1), ("." * 25, -1), ("c" * 25, -1), ("c", 0),
                                ("ab.A", 3), ("ab ", 2)):
            self.assertEqual(raised(BadCalling, told.sure_looks, calling).number, number)
        self.assertEqual(len(told.sure_looks("." * 24)), 24)

    def test_lists_that_are_changed_afterwards(self):
        samples = [["a.", "xy"]]
        told = ToldDrill("a", samples)
        samples[0][1] = "zz"
        samples.append(None)
        self.assertEqual(told.sure_looks("a."), ("x", "y"))


if __name__ == "__main__":
    unittest.main()
