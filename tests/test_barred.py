"""[18] lots of barred words, what cures, the least lots."""

import unittest

from helpers import FREE, WALK, crowd, raised, random_make, random_plan, seeded, walkers
from tailheard.barred import Barred, barred_plan
from tailheard.errors import BadSign, BadWish, BadWords, TooMany
from tailheard.heard import neighbours
from tailheard.kept import Kept
from tailheard.makes import Make
from tailheard.plans import Plan, least_plan
from tailheard.plantext import read_plan

ANY = Plan([[("A", 0)]])
BAD_LOTS = ("ba", "aa", "A", ".", "a.", " ", None, True, 0, ("a",), ["a", "b"], "abca")


class PlanTest(unittest.TestCase):
    def test_barred_words(self):
        plan = read_plan("(a.*b)*c?")
        self.assertEqual(barred_plan(plan, "c"), read_plan("(a.*b)*"))
        self.assertEqual(barred_plan(plan, "b"), read_plan("c?"))
        self.assertEqual(barred_plan(plan, "abc"), Plan([[]]))
        self.assertEqual(barred_plan(plan, "abcdefghijklmnopqrstuvwxyz"), Plan([[]]))

    def test_the_least_plan(self):
        # Two states that are alike, one out of reach, and one that leads nowhere without `b`.
        plan = Plan([[("a", 1), ("b", 3)], [("a", 2)], [("a", 1)], [("b", 2)], [("a", 0)]], [1, 2, 4])
        self.assertEqual(barred_plan(plan, ""), least_plan(plan))
        self.assertEqual(barred_plan(plan, "b"), read_plan("a+"))
        self.assertEqual(barred_plan(plan, "z"), least_plan(plan))

    def test_nothing_left(self):
        self.assertIsNone(barred_plan(read_plan("ab|.b"), "b"))
        self.assertEqual(barred_plan(read_plan("ab|.b"), "a"), read_plan(".b"))
        self.assertIsNone(barred_plan(read_plan("a+"), "a"))
        self.assertIsNone(barred_plan(Plan([[("a", 0), ("b", 1)], []], [1]), "b"))

    def test_other_signs(self):
        self.assertEqual(barred_plan(read_plan("AB.a?"), "a"), read_plan("AB."))

    def test_lots(self):
        for lot in BAD_LOTS:
            self.assertIs(raised(BadWords, barred_plan, FREE, lot).words, lot)

    def test_against_plain_lookers(self):
        rng = seeded(101)
        for _ in range(60):
            plan = random_plan(rng, ".abc", share=0.6)
            lot = "".join(word for word in "abc" if rng.random() < 0.4)
            told = barred_plan(plan, lot)
            left = [text for text in plan.strings(6) if not set(text) & set(lot)]
            self.assertEqual([] if told is None else list(told.strings(6)), left)
            if told is not None:
                self.assertEqual(told, least_plan(told))


class BarredTest(unittest.TestCase):
    def test_one_of_two_words(self):
        # Without `a` nobody sets off; without `b` nobody halts, so that gaps never shrink again.
        told = Barred(walkers(), ANY, read_plan("a.*b"), (1, 1))
        self.assertEqual(told.least_lots, ("a", "b"))
        self.assertEqual((len(told), list(told)), (2, ["a", "b"]))
        self.assertEqual(told.breach_of(""), ("AA", "a", 0))
        self.assertIs(told.cures(""), False)
        self.assertIs(told.cures("a"), True)
        # Nothing is left to be called, and the seat keeps the wish.
        self.assertIsNone(told.breach_of("a"))
        self.assertIs(told.cures("ab"), True)

    def test_only_what_is_left_is_called(self):
        told = Barred(walkers(), ANY, FREE, (1, 1))
        self.assertEqual(told.least_lots, ("a",))
        self.assertEqual(told.breach_of("b"), ("AA", "a", 0))
        self.assertIs(told.cures("b"), False)

    def test_no_lot(self):
        told = Barred(walkers(), ANY, FREE, (0, 0))
        self.assertEqual((told.least_lots, len(told), list(told)), ((), 0, []))
        for lot in ("", "a", "b", "ab"):
            self.assertIs(told.cures(lot), False)
            self.assertEqual(told.breach_of(lot), ("AA", "", 0))

    def test_the_empty_lot(self):
        told = Barred(walkers(), ANY, FREE, (1, 2))
        self.assertEqual(told.least_lots, ("",))
        self.assertIs(told.cures(""), True)
        self.assertIs(told.cures("a"), True)
        self.assertIsNone(told.breach_of(""))
        self.assertIsNone(told.breach_of("ab"))

    def test_nothing_left_and_a_seat_that_breaks(self):
        told = Barred(walkers(), ANY, read_plan("a+"), (2, 3))
        self.assertEqual(told.least_lots, ())
        self.assertIs(told.cures("a"), False)
        self.assertIsNone(told.breach_of("a"))
        self.assertEqual(told.breach_of("b"), ("AA", "", 0))
        # Seats of kinds that are no neighbours count nothing.
        make = Make("ab", [("A", 1, WALK), ("B", 1, WALK)], 1, [("B", "A", 9)])
        self.assertEqual(Barred(make, Plan.bearing(["AB", "B"]), read_plan("a+"), (1, 1)).least_lots, ("a",))

    def test_least_lots_of_several_words(self):
        # `c` walks as `a` does; only `b` and `d` halt. One of each side does not do.
        rows = ((0, 2, (0, 1, 0, 1, 0)), (1, 2, (1, 1, 0, 1, 0)))
        make = Make("abcd", [("A", 1, rows)], 1)
        told = Barred(make, ANY, Plan([[(sign, 0) for sign in ".abcd"]]), (1, 1))
        self.assertEqual(told.least_lots, ("ac",))
        told = Barred(make, ANY, read_plan("(ab|cd)*"), (1, 1))
        self.assertEqual(told.least_lots, ("ac", "ad", "bc", "bd"))
        self.assertIs(told.cures("abd"), True)
        self.assertEqual(told.breach_of("ab"), ("AA", "c", 0))

    def test_letters_that_are_no_words(self):
        told = Barred(walkers(), ANY, FREE, (1, 1))
        self.assertIs(told.cures("z"), False)
        self.assertEqual(told.breach_of("cdz"), ("AA", "a", 0))
        self.assertIs(told.cures("az"), True)
        for lot in BAD_LOTS:
            self.assertIs(raised(BadWords, told.cures, lot).words, lot)
            self.assertIs(raised(BadWords, told.breach_of, lot).words, lot)

    def test_against_plain_lookers(self):
        rng = seeded(102)
        kinds = set()
        for _ in range(60):
            make = random_make(rng, words="abc", stride=1)
            calls = random_plan(rng, ".abc", share=0.6)
            columns = random_plan(rng, make.all_names)
            wish = (rng.randint(0, 1), rng.randint(2, 8))
            told = Barred(make, columns, calls, wish)
            cured = []
            for lot in ("", "a", "b", "c", "ab", "ac", "bc", "abc"):
                left = barred_plan(calls, lot)
                if left is None:
                    seats = [make.seat_of(*pair) for pair in neighbours(make, columns)]
                    cures, breach = all(wish[0] <= seat <= wish[1] for seat in seats), None
                else:
                    kept = Kept(make, columns, left, wish)
                    cures, breach = bool(kept), kept.breach
                self.assertEqual((told.cures(lot), told.breach_of(lot)), (cures, breach))
                if cures and not [part for part in cured if set(part) < set(lot)]:
                    cured.append(lot)
            self.assertEqual(told.least_lots, tuple(cured))
            kinds.add(len(cured))
        self.assertGreaterEqual(len(kinds), 3)

    def test_too_many(self):
        make, calls = crowd(601)
        pair = Plan.bearing(["AB"])
        self.assertEqual(raised(TooMany, Barred, make, pair, calls, (5, 5)).word, "between")
        self.assertEqual(raised(TooMany, Barred, make, pair, calls, (0, 60)).word, "between")
        make, calls = crowd(600)
        self.assertEqual(Barred(make, pair, calls, (0, 60)).least_lots, ("",))
        # The plan itself counts, though the least plan has fewer betweens.
        row = [[(".", at + 1)] for at in range(58)] + [[(sign, 59) for sign in "abc"], [(sign, 59) for sign in ".abc"]]
        wide = Plan([*row[:40], *[[(sign, at % 19 + 41) for sign in ".abc"] for at in range(40, 60)]])
        self.assertEqual(raised(TooMany, Barred, make, pair, wide, (0, 60)).word, "between")
        self.assertTrue(Kept(make, pair, least_plan(wide), (0, 60)))

    def test_errors(self):
        make = walkers()
        self.assertEqual(raised(BadSign, Barred, make, FREE, ANY, None).sign, ".")
        self.assertEqual(raised(BadSign, Barred, make, ANY, ANY, None).sign, "A")
        self.assertEqual(raised(BadWish, Barred, make, ANY, FREE, (2, 1)).wish, (2, 1))
        wish = [1, 1]
        told = Barred(make, ANY, FREE, wish)
        wish[1] = 9
        self.assertIs(told.cures(""), False)


if __name__ == "__main__":
    unittest.main()
