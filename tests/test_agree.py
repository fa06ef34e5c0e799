"""[28] quiet doubles, groups that agree, the table or the least pair of strings, when a table is closed."""

import itertools
import unittest

from helpers import (FREE, STRETCH, WALK, late_word, many_doubles, plain_onward, raised, random_plan,
                     random_standings, seeded, two_kinds, walkers)
from tailheard.agree import Agree, judge_agree
from tailheard.columns import Column
from tailheard.doubles import Doubles
from tailheard.errors import BadSign, NotSteady, TooMany, Unknown
from tailheard.makes import Make
from tailheard.plans import Plan
from tailheard.plantext import read_plan
from tailheard.talks import Talk

# Two words that commute: each turns a switch of its own.
SWITCHES = ((0, 1, (0, 1, 2)), (1, 1, (1, 0, 3)), (0, 2, (2, 3, 0)), (1, 2, (3, 2, 1)))
HALT = ((0, 1, (0, 0, 0)),)


def is_quiet(double):
    return max(double[:2]) < 0 and set(double[4] + double[5]) == {"."}


def least_pair(make, name, downs, ups, most):
    """The least pair of strings, up to a length, behind which two groups can stand unlike one another."""
    silences = "." * make.lag_of(name)
    layer = {("", ""): {(-2, -2, 0, 0, silences, silences)}}
    moves = {}
    for _ in range(most):
        further = {}
        for (down, up), doubles in layer.items():
            for double in doubles:
                if double not in moves:
                    moves[double] = plain_onward(make, name, name, downs, ups, double)
                for signs, _, onto in moves[double]:
                    further.setdefault((down + signs[0], up + signs[1]), set()).add(onto)
        layer = further
        for pair in sorted(layer):
            if any(is_quiet(double) and double[2] != double[3] for double in layer[pair]):
                return pair
    return None


def least_steps(make, name, downs, ups):
    """The least tuple of steps that leads to a quiet double with unlike standings, as a pair of strings."""
    doubles = Doubles(make, name, name, downs, ups)
    ways = {list(doubles)[0]: ()}
    for double in doubles:
        for signs, _, onto in doubles.onward(double):
            way = (*ways[double], signs)
            if onto not in ways or (len(way), way) < (len(ways[onto]), ways[onto]):
                ways[onto] = way
    way = min([ways[double] for double in doubles if is_quiet(double) and double[2] != double[3]],
              key=lambda way: (len(way), way))
    return tuple("".join(signs[at] for signs in way) for at in (0, 1))


class AgreeTest(unittest.TestCase):
    def test_words_that_commute(self):
        make = Make("ab", [("A", 1, SWITCHES)])
        told = Agree(make, "A", read_plan("a|b|.|ab"), read_plan("b"))
        self.assertIs(bool(told), True)
        self.assertIsNone(told.breach)
        doubles = Doubles(make, "A", "A", read_plan("a|b|.|ab"), read_plan("b"))
        self.assertEqual(told.table, tuple(doubles))
        self.assertEqual((len(told), list(told)), (len(doubles), list(doubles)))
        self.assertIsNone(judge_agree(make, "A", read_plan("a|b|.|ab"), read_plan("b"), told.table))

    def test_words_that_clash(self):
        told = Agree(walkers(), "A", read_plan("a"), read_plan("b"))
        self.assertIs(bool(told), False)
        self.assertEqual((told.breach, told.table, len(told), list(told)), (("a.", "b."), None, 0, []))
        # Both marshals call the same word.
        self.assertTrue(Agree(walkers(), "A", read_plan("a"), read_plan("a")))
        # Nobody calls a word from behind.
        self.assertTrue(Agree(walkers(), "A", read_plan("(a|b)+"), read_plan(".+")))

    def test_the_least_pair(self):
        self.assertEqual(Agree(walkers(), "A", read_plan("a.?|b"), read_plan("a|b")).breach, ("a.", "b."))
        self.assertEqual(Agree(walkers(), "A", read_plan("b"), read_plan("a|aa")).breach, ("b.", "a."))
        slow = Agree(Make("ab", [("A", 2, WALK)]), "A", read_plan("a"), read_plan("b"))
        self.assertEqual(slow.breach, ("a..", "b.."))

    def test_against_plain_lookers(self):
        rng = seeded(200)
        lengths = []
        for _ in range(50):
            make = Make("ab", [("A", rng.choice([1, 1, 2]), random_standings(rng, 3, most=3, steady=True))])
            downs, ups = [random_plan(rng, ".ab", most=3, share=0.5) for _ in range(2)]
            try:
                told = Agree(make, "A", downs, ups)
            except TooMany:
                continue
            if told:
                self.assertEqual(told.table, tuple(Doubles(make, "A", "A", downs, ups)))
                self.assertFalse([row for row in told if is_quiet(row) and row[2] != row[3]])
                self.assertIsNone(judge_agree(make, "A", downs, ups, told.table))
                lengths.append(0)
                continue
            down, up = told.breach
            lengths.append(len(down))
            self.assertEqual(len(down), len(up))
            if len(down) <= 4:
                self.assertEqual(least_pair(make, "A", downs, ups, len(down)), (down, up))
        self.assertGreater(min(lengths.count(length) for length in (0, 2, 3)), 2)

    def test_pairs_not_steps(self):
        # Pairs are compared string by string, not beat by beat: there are cases in which this tells another pair.
        rng = seeded(201)
        unlike = 0
        for _ in range(1500):
            make = Make("ab", [("A", 1, random_standings(rng, 3, most=4, steady=True))])
            downs, ups = [Plan.bearing(["".join(rng.choice(".ab") for _ in range(rng.randint(1, 3)))
                                        for _ in range(3)]) for _ in range(2)]
            told = Agree(make, "A", downs, ups)
            if not told and len(told.breach[0]) <= 4 and least_steps(make, "A", downs, ups) != told.breach:
                unlike += 1
                self.assertEqual(least_pair(make, "A", downs, ups, 4), told.breach)
        self.assertGreater(unlike, 2)

    def test_ways_that_end(self):
        # Beginnings of the up string that would be the least, but by which the down string leads nowhere.
        make = Make("ab", [("A", 1, ((0, 1, (0, 4, 2)), (0, 2, (1, 0, 0)), (0, 3, (2, 1, 0)), (0, 3, (3, 1, 2)),
                                     (-1, 3, (4, 4, 1))))])
        downs = Plan([[(".", 1), ("a", 2), ("b", 2)], [("a", 3)], [], [("b", 2)]], [2])
        ups = Plan([[(".", 1), ("a", 2), ("b", 1)], [("b", 3)], [("a", 4), ("b", 5)], [("a", 6)], [(".", 3)],
                    [(".", 6)], []], [2, 6])
        self.assertEqual(Agree(make, "A", downs, ups).breach, ("..a.", "ab.."))
        self.assertEqual(least_pair(make, "A", downs, ups, 4), ("..a.", "ab.."))
        make = Make("ab", [("A", 1, ((0, 3, (0, 0, 4)), (1, 3, (1, 4, 4)), (0, 2, (2, 1, 1)), (1, 1, (3, 2, 1)),
                                     (1, 1, (4, 4, 1))))])
        downs = Plan([[(".", 1)], [("b", 0)]])
        ups = Plan([[(".", 0), ("a", 0), ("b", 1)], [(".", 0)]], [1])
        self.assertEqual(Agree(make, "A", downs, ups).breach, ("...b.", "b.ab."))

    def test_against_columns(self):
        rng = seeded(202)
        verdicts = set()
        for _ in range(40):
            make = Make("ab", [("A", rng.randint(1, 2), random_standings(rng, 3, most=3, steady=True))])
            downs, ups = [Plan.bearing(["".join(rng.choice(".ab") for _ in range(rng.randint(0, 2)))
                                        for _ in range(2)]) for _ in range(2)]
            told = Agree(make, "A", downs, ups)
            verdicts.add(bool(told))
            for groups in ("AA", "AAAA"):
                for down, up in itertools.product(downs.strings(3), ups.strings(3)):
                    for at in (1, 2, 3, 4):
                        talk = Talk(Column(make, groups), down, up, down_at=3, up_at=at)
                        if told:
                            self.assertEqual(len(set(talk.standings_at(talk.beats))), 1)
            if not told:
                down, up = told.breach
                standings = [0, 0]
                lag = make.lag_of("A")
                for beat in range(len(down)):
                    early = [text[beat - lag] if beat >= lag else "." for text in (down, up)]
                    for at, signs in enumerate(((down[beat], early[1]), (early[0], up[beat]))):
                        for sign in [sign for sign in signs if sign != "."]:
                            standings[at] = make["A"](standings[at], sign)
                self.assertNotEqual(standings[0], standings[1])
        self.assertEqual(verdicts, {True, False})

    def test_not_steady(self):
        self.assertEqual(raised(NotSteady, Agree, two_kinds(), "B", FREE, FREE).name, "B")
        self.assertEqual(raised(NotSteady, judge_agree, two_kinds(), "B", FREE, FREE, None).name, "B")

    def test_twelve_hundred(self):
        # Both where they agree and where they do not.
        self.assertIs(bool(Agree(walkers(), "A", *many_doubles(0))), False)
        self.assertEqual(raised(TooMany, Agree, walkers(), "A", *many_doubles(1)).word, "double")
        still = Make("ab", [("A", 1, HALT)])
        self.assertEqual(len(Agree(still, "A", late_word(28, ""), late_word(38, ""))), 1200)
        self.assertEqual(raised(TooMany, Agree, still, "A", late_word(28, ""), late_word(39, "")).word, "double")
        self.assertEqual(judge_agree(still, "A", late_word(28, ""), late_word(39, ""), ()), -1)

    def test_order_of_errors(self):
        make = two_kinds()
        bad = Plan([[("c", 0)]])
        for call in (Agree, lambda *things: judge_agree(*things, None)):
            for name in ("C", "AA", "", None, ["A"], True):
                self.assertIs(raised(Unknown, call, make, name, bad, bad).name, name)
            self.assertEqual(raised(NotSteady, call, make, "B", bad, bad).name, "B")
            self.assertEqual(raised(BadSign, call, make, "A", bad, Plan([[("d", 0)]])).sign, "c")
            self.assertEqual(raised(BadSign, call, make, "A", FREE, Plan([[("d", 0)]])).sign, "d")
        self.assertEqual(len(STRETCH), 2)


class JudgeTest(unittest.TestCase):
    make = walkers()
    downs = read_plan("a")
    ups = read_plan("a?.")
    table = Agree(make, "A", downs, ups).table

    def judge(self, *rows):
        return judge_agree(self.make, "A", self.downs, self.ups, rows)

    def test_closed(self):
        self.assertGreater(len(self.table), 10)
        self.assertIsNone(self.judge(*self.table))
        self.assertIsNone(self.judge(*reversed(self.table)))
        self.assertIsNone(self.judge(*self.table, *self.table))
        self.assertIsNone(judge_agree(self.make, "A", self.downs, self.ups, [list(row) for row in self.table]))

    def test_a_row_less(self):
        for at, gone in enumerate(self.table):
            rows = self.table[:at] + self.table[at + 1:]
            lacking = [number for number, row in enumerate(rows)
                       if gone in [onto for _, _, onto in plain_onward(self.make, "A", "A", self.downs, self.ups, row)]]
            self.assertEqual(self.judge(*rows), -1 if at == 0 else lacking[0])

    def test_unlike_groups(self):
        for row in ((-1, -1, 0, 1, ".", "."), (-2, -1, 1, 0, ".", "."), (-1, -2, 0, 1, ".", ".")):
            self.assertEqual(self.judge(*self.table, row), len(self.table))
        # The plan of a word that both call, and no word that undoes it.
        for row in ((-1, -1, 0, 0, ".", "."), (-1, -1, 1, 1, ".", ".")):
            self.assertIsNone(self.judge(*self.table, row))
        # Not quiet: only what follows counts.
        self.assertEqual(self.judge(*self.table, (-1, -1, 1, 0, ".", "b")), len(self.table))
        self.assertIsNone(self.judge(*self.table, (-1, -1, 0, 1, "a", "a")))
        self.assertEqual(self.judge((-1, -1, 0, 1, ".", "."), *self.table), 0)
        # A word that one of them has not heard yet makes both alike.
        self.assertIsNone(self.judge(*self.table, (-1, -1, 1, 0, "a", ".")))
        self.assertIsNone(self.judge(*self.table, (-1, -1, 0, 1, ".", "a")))

    def test_rows_never_reached(self):
        self.assertNotIn((-1, -1, 0, 1, "a", "a"), self.table)
        self.assertIsNone(self.judge(*self.table, (-1, -1, 0, 1, "a", "a")))
        self.assertEqual(self.judge(*self.table, (-1, -1, 0, 1, "b", "b")), len(self.table))

    def test_rows_without_the_form(self):
        good = self.table[3]
        for row in (None, 0, (), good[:5], (*good, 0), (2, *good[1:]), (-3, *good[1:]), (True, *good[1:]),
                    (good[0], 3, *good[2:]), (good[0], -3, *good[2:]), (good[0], None, *good[2:]),
                    (*good[:2], 2, *good[3:]), (*good[:2], -1, *good[3:]), (*good[:2], False, *good[3:]),
                    (*good[:3], 2, *good[4:]), (*good[:3], -1, *good[4:]), (*good[:3], "0", *good[4:]),
                    (*good[:4], "", good[5]), (*good[:4], "..", good[5]), (*good[:4], "c", good[5]),
                    (*good[:4], None, good[5]), (*good[:5], ""), (*good[:5], "A"), (*good[:5], ["."]), {}, "abcdef",
                    ({}, *good[1:])):
            self.assertEqual(self.judge(*self.table, row), len(self.table), row)
            self.assertEqual(self.judge(row, *self.table), 0)

    def test_the_beginning(self):
        for table in (None, 0, (), self.table[1:], "a", (None,), {}, [self.table[1]]):
            self.assertEqual(judge_agree(self.make, "A", self.downs, self.ups, table), -1)


if __name__ == "__main__":
    unittest.main()
