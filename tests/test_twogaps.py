"""[27] lows and highs between two voices, told and judged as in [12]."""

import unittest

from helpers import (FREE, WALK, late_word, many_doubles, plain_onward, raised, random_make, random_plan, seeded,
                     two_kinds, walkers)
from tailheard.columns import Column
from tailheard.doubles import Doubles
from tailheard.errors import BadSign, TooMany, Unknown
from tailheard.makes import Make
from tailheard.plans import Plan
from tailheard.plantext import read_plan
from tailheard.talks import Talk
from tailheard.twogaps import TwoGaps, judge_two_gaps

STILL = ((0, 1, (0, 0, 0)),)


def plain_bounds(make, ahead, behind, downs, ups, steps):
    """For each double the least and the greatest gap that up to so many steps lead to."""
    silences = "." * make.lag_of(ahead)
    first = (-2, -2, 0, 0, silences, silences)
    seat = make.seat_of(ahead, behind)
    found = {first: (seat, seat)}
    layer = dict(found)
    moves = {}
    for _ in range(steps):
        further = {}
        for double, (low, high) in layer.items():
            if double not in moves:
                moves[double] = plain_onward(make, ahead, behind, downs, ups, double)
            for _, change, onto in moves[double]:
                least, most = further.get(onto, (low + change, high + change))
                further[onto] = (min(least, low + change), max(most, high + change))
        layer = further
        for double, (low, high) in layer.items():
            least, most = found.get(double, (low, high))
            found[double] = (min(least, low), max(most, high))
    return found


class TwoGapsTest(unittest.TestCase):
    def test_two_words(self):
        make = walkers()
        told = TwoGaps(make, "A", "A", read_plan("a"), read_plan("a"))
        self.assertEqual([row[:6] for row in told], list(Doubles(make, "A", "A", read_plan("a"), read_plan("a"))))
        self.assertEqual((told.least, told.greatest), (0, 2))
        self.assertEqual(told.table[0], (-2, -2, 0, 0, ".", ".", 1, 1))
        self.assertEqual((len(told), list(told)), (len(told.table), list(told.table)))
        self.assertIsNone(judge_two_gaps(make, "A", "A", read_plan("a"), read_plan("a"), told.table))

    def test_no_bounds(self):
        # A down word and an up word cross: the one ahead halts, the one behind walks on.
        told = TwoGaps(walkers(), "A", "A", read_plan("a"), read_plan("b"))
        self.assertEqual((told.least, told.greatest), (None, 3))
        self.assertIn((-1, -1, 0, 1, ".", ".", None, 1), told.table)
        other = TwoGaps(walkers(), "A", "A", read_plan("b"), read_plan("a"))
        self.assertEqual((other.least, other.greatest), (-1, None))

    def test_against_plain_lookers(self):
        rng = seeded(210)
        kinds = set()
        for _ in range(80):
            make = random_make(rng, stride=rng.choice([0, 1, 2]))
            downs, ups = [random_plan(rng, ".ab", most=3, share=0.3) for _ in range(2)]
            ahead, behind = rng.choice(make.all_names), rng.choice(make.all_names)
            try:
                told = TwoGaps(make, ahead, behind, downs, ups)
            except TooMany:
                continue
            if len(told) > 150:
                continue
            near = plain_bounds(make, ahead, behind, downs, ups, 60)
            far = plain_bounds(make, ahead, behind, downs, ups, 120)
            self.assertEqual(set(far), {row[:6] for row in told})
            for row in told:
                for place, side in ((6, 0), (7, 1)):
                    value = row[place]
                    if value is None:
                        self.assertNotEqual(near[row[:6]][side], far[row[:6]][side])
                    else:
                        self.assertEqual((near[row[:6]][side], far[row[:6]][side]), (value, value))
            lows, highs = [[row[place] for row in told] for place in (6, 7)]
            self.assertEqual(told.least, None if None in lows else min(lows))
            self.assertEqual(told.greatest, None if None in highs else max(highs))
            self.assertIsNone(judge_two_gaps(make, ahead, behind, downs, ups, told.table))
            kinds.add((told.least is None, told.greatest is None))
        self.assertEqual(len(kinds), 4)

    def test_against_talks(self):
        rng = seeded(211)
        for _ in range(40):
            make = random_make(rng, stride=1)
            downs, ups = read_plan("(a|.b)a?"), read_plan("b?a")
            column = Column(make, "".join(rng.choice(make.all_names) for _ in range(2)))
            told = TwoGaps(make, *column.groups, downs, ups)
            for down in downs.strings(3):
                for up in ups.strings(3):
                    talk = Talk(column, down, up, down_at=3, up_at=rng.randint(1, 6), beats=15)
                    for beat in range(16):
                        gap = talk.gaps_at(beat)[0]
                        self.assertTrue(told.least is None or told.least <= gap)
                        self.assertTrue(told.greatest is None or gap <= told.greatest)

    def test_too_many(self):
        self.assertEqual(len(TwoGaps(walkers(), "A", "A", *many_doubles(0))), 1200)
        self.assertEqual(raised(TooMany, TwoGaps, walkers(), "A", "A", *many_doubles(1)).word, "double")
        still = Make("ab", [("A", 1, STILL)])
        self.assertEqual(judge_two_gaps(still, "A", "A", late_word(50, ""), late_word(50, ""), ()), -1)

    def test_order_of_errors(self):
        make = walkers()
        bad = Plan([[("c", 0)]])
        for call in (TwoGaps, lambda *things: judge_two_gaps(*things, None)):
            for name in ("B", "AA", "", None, True, ["A"]):
                self.assertIs(raised(Unknown, call, make, name, "?", bad, bad).name, name)
                self.assertIs(raised(Unknown, call, make, "A", name, bad, bad).name, name)
            self.assertEqual(raised(BadSign, call, make, "A", "A", bad, Plan([[("d", 0)]])).sign, "c")
            self.assertEqual(raised(BadSign, call, make, "A", "A", FREE, Plan([[("d", 0)]])).sign, "d")


class JudgeTest(unittest.TestCase):
    make = Make("ab", [("A", 2, WALK), ("B", 1, STILL)], 3)
    downs = read_plan("ab")
    ups = read_plan("a")
    told = TwoGaps(make, "A", "B", downs, ups)
    table = told.table

    def judge(self, *rows):
        return judge_two_gaps(self.make, "A", "B", self.downs, self.ups, rows)

    def moves(self, row):
        return plain_onward(self.make, "A", "B", self.downs, self.ups, row[:6])

    def test_right(self):
        self.assertIsNone(self.judge(*self.table))
        self.assertIsNone(self.judge(*reversed(self.table)))
        self.assertIsNone(self.judge(*self.table, *self.table))
        self.assertIsNone(judge_two_gaps(self.make, "A", "B", self.downs, self.ups, [list(row) for row in self.table]))
        self.assertIn(None, [row[7] for row in self.table])
        self.assertNotIn(None, [row[6] for row in self.table])

    def test_a_row_less(self):
        for at, gone in enumerate(self.table):
            rows = self.table[:at] + self.table[at + 1:]
            lacking = [number for number, row in enumerate(rows) if gone[:6] in [onto for _, _, onto in self.moves(row)]]
            self.assertEqual(self.judge(*rows), -1 if at == 0 else lacking[0])

    def test_one_pace_less(self):
        for at, row in enumerate(self.table):
            for place, more in ((6, 1), (7, -1)):
                if row[place] is None:
                    continue
                changed = (*row[:place], row[place] + more, *row[place + 1:])
                rows = (*self.table[:at], changed, *self.table[at + 1:])
                wrong = []
                for number, other in enumerate(rows):
                    low, high = other[6:]
                    told = {each[:6]: each[6:] for each in rows}
                    fits = number > 0 or (low <= 3 and (high is None or high >= 3))
                    for _, change, onto in self.moves(other):
                        further = told[onto]
                        fits = fits and further[0] <= low + change
                        fits = fits and (further[1] is None or (high is not None and further[1] >= high + change))
                    if not fits:
                        wrong.append(number)
                self.assertEqual(self.judge(*rows), wrong[0])

    def test_no_bounds_at_all(self):
        wide = tuple((*row[:6], None, None) for row in self.table)
        self.assertIsNone(self.judge(*wide))
        # A low is told where those ahead of it have none.
        for at in range(1, len(wide)):
            sources = [number for number, row in enumerate(wide)
                       if number != at and wide[at][:6] in [onto for _, _, onto in self.moves(row)]]
            rows = (*wide[:at], (*wide[at][:6], self.table[at][6], None), *wide[at + 1:])
            self.assertEqual(self.judge(*rows), sources[0])

    def test_first_rows_tell(self):
        lying = (*self.table[1][:6], 99, 99)
        self.assertEqual(self.judge(*self.table, lying), len(self.table))
        self.assertEqual(self.judge(self.table[0], lying, *self.table[1:]), 0)

    def test_rows_without_the_form(self):
        good = self.table[3]
        for row in (None, 0, (), good[:7], (*good, 0), (*good[:6], True, good[7]), (*good[:6], good[6], False),
                    (*good[:6], "0", good[7]), (*good[:6], good[6], ()), (3, *good[1:]), (-3, *good[1:]),
                    (*good[:3], 1, *good[4:]), (*good[:4], ".", *good[5:]), (*good[:5], "...", *good[6:]), {}, "abcdefgh",
                    ({}, *good[1:])):
            self.assertEqual(self.judge(*self.table, row), len(self.table), row)
            self.assertEqual(self.judge(row, *self.table), 0)

    def test_the_beginning(self):
        for table in (None, 0, (), self.table[1:], "a", (None,), {}, [self.table[1]]):
            self.assertEqual(judge_two_gaps(self.make, "A", "B", self.downs, self.ups, table), -1)
        seat = self.table[0]
        for low, high in ((4, 9), (0, 2)):
            rows = ((*seat[:6], low, high), *[(*row[:6], None, None) for row in self.table[1:]])
            self.assertEqual(self.judge(*rows), 0)
        self.assertEqual(len(list(two_kinds())), 2)


if __name__ == "__main__":
    unittest.main()
