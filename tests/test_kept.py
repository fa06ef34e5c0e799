"""[13] wishes that are kept, the table, the breach, when a table is right."""

import unittest

from helpers import (FREE, WALK, crowd, gap_behind, hears, heard_texts, raised, random_make, random_plan, seeded,
                     two_kinds, walkers)
from tailheard.columns import Column
from tailheard.errors import BadSign, BadWish, TooMany
from tailheard.gaps import Gaps
from tailheard.heard import neighbours
from tailheard.kept import Kept, judge_kept
from tailheard.makes import Make
from tailheard.plans import Plan
from tailheard.plantext import read_plan
from tailheard.runs import Run

ANY = Plan([[("A", 0)]])
MIXED = Plan([[("A", 0), ("B", 0)]])
ONCE = read_plan("a.*b")
# Three kinds that walk alike; what they make of `a` differs in the beat at which the gaps grow.
KINDS = [("A", 1, WALK), ("B", 2, WALK), ("C", 1, ((0, 2, (0, 0, 0)),))]


class KeptTest(unittest.TestCase):
    def test_just_kept(self):
        told = Kept(walkers(), ANY, ONCE, (1, 2))
        self.assertIs(bool(told), True)
        self.assertIsNone(told.breach)
        self.assertEqual(told.table, tuple(("A", "A", *row) for row in Gaps(walkers(), "A", "A", ONCE)))
        self.assertEqual((len(told), list(told)), (5, list(told.table)))
        self.assertTrue(Kept(walkers(), ANY, FREE, [0, 60]))

    def test_one_pace_less(self):
        high = Kept(walkers(), ANY, ONCE, (1, 1))
        self.assertIs(bool(high), False)
        self.assertEqual((high.table, len(high), list(high)), (None, 0, []))
        self.assertEqual(high.breach, ("AA", "a", 0))
        self.assertEqual(Kept(walkers(), ANY, ONCE, (2, 2)).breach, ("AA", "", 0))

    def test_bounds_of_wishes(self):
        far = walkers(seats=[("A", "A", 40)])
        self.assertTrue(Kept(far, ANY, ONCE, (40, 60)))
        self.assertFalse(Kept(far, ANY, ONCE, (41, 60)))
        near = walkers(seats=[("A", "A", 0)])
        self.assertTrue(Kept(near, ANY, ONCE, (0, 1)))
        self.assertFalse(Kept(near, ANY, ONCE, (0, 0)))

    def test_columns_of_one_group(self):
        told = Kept(two_kinds(), Plan.bearing(["A", "B", ""]), FREE, (0, 0))
        self.assertIs(bool(told), True)
        self.assertEqual((told.table, told.breach, len(told)), ((), None, 0))
        self.assertTrue(Kept(two_kinds(), Plan([[]]), FREE, (0, 0)))

    def test_neighbours_in_order(self):
        make = Make("ab", KINDS[:2], 5)
        told = Kept(make, Plan.bearing(["BA", "AB", "AA"]), ONCE, (0, 60))
        rows = [(*pair, *row) for pair in (("A", "A"), ("A", "B"), ("B", "A")) for row in Gaps(make, *pair, ONCE)]
        self.assertEqual(list(told), rows)

    def test_breach_at_rest(self):
        make = Make("ab", KINDS, 5, [("A", "C", 1)])
        told = Kept(make, Plan([[("A", 1), ("B", 0)], [("A", 1), ("C", 2)], []], [0, 1, 2]), FREE, (2, 60))
        self.assertEqual(told.breach, ("AC", "", 0))
        # A shorter column goes ahead, though the wish is broken later in it.
        self.assertEqual(Kept(make, read_plan("BBA?C"), FREE, (2, 60)).breach, ("BBC", "a" + "." * 55, 1))

    def test_least_column_goes_first(self):
        # Only groups of the kind C stand still, so gaps in front of them grow and those behind them shrink.
        make = Make("ab", KINDS, 5)
        # BC is longer than AB, but AB keeps the wish.
        self.assertEqual(Kept(make, Plan.bearing(["AB", "AABA", "BBC"]), ONCE, (3, 8)).breach, ("BBC", "a...", 1))
        # Of columns of one length the first, whatever its calling.
        both = Kept(make, Plan.bearing(["CA", "AC"]), read_plan("a.*b"), (4, 6))
        self.assertEqual(both.breach, ("AC", "a.", 0))

    def test_least_calling_of_the_column(self):
        make = Make("ab", KINDS, 5, [("C", "A", 9)])
        # Behind the first group the gap needs four beats too many, behind the third one but two.
        self.assertEqual(Kept(make, Plan.bearing(["ACAAC"]), read_plan(".?a.*"), (0, 9)).breach, ("ACAAC", "a....", 0))
        narrow = Make("ab", KINDS, 5, [("B", "C", 7)])
        self.assertEqual(Kept(narrow, Plan.bearing(["ACBC"]), read_plan(".?a.*"), (0, 8)).breach, ("ACBC", "a.", 2))

    def test_first_group(self):
        make = Make("ab", KINDS, 5)
        told = Kept(make, Plan.bearing(["AACABC"]), read_plan("a.*"), (0, 7))
        self.assertEqual(told.breach, ("AACABC", "a..", 1))

    def test_long_columns(self):
        # A column of 70 groups that breaks the wish at its end alone: told as a string, not as a Column.
        rows = [[("A", at + 1)] for at in range(57)] + [[("A", 58), ("C", 59)], [("A", 57)], []]
        make = Make("ab", KINDS, 5)
        told = Kept(make, Plan(rows, [59]), read_plan("a.*"), (4, 7))
        self.assertEqual(told.breach, ("A" * 57 + "C", "a..", 56))
        longer = Plan([[("A", at + 1)] for at in range(40)] + [[("A", 1), ("C", 41)], []], [41])
        self.assertEqual(Kept(make, longer, read_plan("a.*"), (4, 7)).breach[0], "A" * 40 + "C")

    def test_long_callings(self):
        # Each round gains one pace; the wish leaves room for 55 of them.
        rows = ((0, 1, (0, 0, 1)), (1, 1, (0, 0, 1)))
        make = Make("ab", [("A", 1, rows), ("C", 1, ((0, 1, (0, 0, 0)),))], 5)
        plan = Plan([[(".", at + 1)] for at in range(9)] + [[("b", 0)]])
        told = Kept(make, Plan.bearing(["AC"]), plan, (0, 60))
        self.assertEqual(told.breach, ("AC", ("." * 9 + "b") * 56, 0))

    def test_against_plain_lookers(self):
        rng = seeded(17)
        kept = 0
        for _ in range(120):
            make = random_make(rng, stride=rng.choice([0, 1, 1, 2]))
            calls = random_plan(rng, ".ab", share=0.6)
            columns = random_plan(rng, make.all_names)
            low = rng.randint(0, 2)
            wish = (low, low + rng.randint(0, 8))
            told = Kept(make, columns, calls, wish)
            texts = heard_texts(calls, ".ab", 5)

            def breaks(pair, text):
                return not wish[0] <= gap_behind(make, *pair, text)[0] <= wish[1]

            if told:
                kept += 1
                self.assertIsNone(judge_kept(make, columns, calls, wish, told.table))
                for groups in columns.strings(4):
                    if groups:
                        runs = [Run(Column(make, groups), text) for text in texts[:25]]
                        self.assertEqual([run.first_breach(wish) for run in runs], [None] * len(runs))
                continue
            groups, calling, number = told.breach
            self.assertTrue(groups in columns and hears(calls, calling))
            self.assertTrue(breaks((groups[number], groups[number + 1]), calling))
            self.assertFalse([at for at in range(number) if breaks((groups[at], groups[at + 1]), calling)])
            if len(groups) <= 60 and len(calling) <= 400:
                column = Column(make, groups)
                run = Run(column, calling)
                gap = run.gaps_at(column.delay_row[number] + len(calling))[number]
                self.assertFalse(wish[0] <= gap <= wish[1])
            for text in texts:
                if (len(text), text) < (len(calling), calling):
                    self.assertFalse([pair for pair in zip(groups, groups[1:]) if breaks(pair, text)])
            for other in columns.strings(min(len(groups), 6)):
                if (len(other), other) < (len(groups), groups):
                    for pair in zip(other, other[1:]):
                        gaps = Gaps(make, *pair, calls)
                        self.assertNotIn(None, (gaps.least, gaps.greatest))
                        self.assertTrue(wish[0] <= gaps.least and gaps.greatest <= wish[1])
        self.assertGreater(kept, 30)

    def test_errors(self):
        make = walkers()
        self.assertEqual(raised(BadSign, Kept, make, FREE, ANY, None).sign, ".")
        self.assertEqual(raised(BadSign, Kept, make, ANY, ANY, None).sign, "A")
        for wish in (None, (0,), (2, 1), (0, 61), (True, 2), (0, False), "01"):
            self.assertIs(raised(BadWish, Kept, make, ANY, FREE, wish).wish, wish)
            self.assertIs(raised(BadWish, judge_kept, make, ANY, FREE, wish, None).wish, wish)
        self.assertEqual(raised(BadSign, judge_kept, make, FREE, ANY, None, None).sign, ".")
        self.assertEqual(raised(BadSign, judge_kept, make, ANY, ANY, None, None).sign, "A")

    def test_too_many(self):
        make, calls = crowd(601)
        wide = (0, 60)
        for wish in (wide, (5, 5)):
            self.assertEqual(raised(TooMany, Kept, make, Plan.bearing(["AB"]), calls, wish).word, "between")
            self.assertEqual(raised(TooMany, Kept, make, Plan.bearing(["CA", "CAC"]), calls, wish).word, "between")
        # Only of neighbours of the column plan.
        self.assertTrue(Kept(make, Plan.bearing(["A", "B", "CA"]), calls, wide))
        make, calls = crowd(600)
        self.assertTrue(Kept(make, Plan.bearing(["AB"]), calls, wide))
        self.assertEqual(Kept(make, Plan.bearing(["AB"]), calls, (5, 5)).breach, ("AB", "", 0))
        make, calls = crowd(601)
        self.assertEqual(judge_kept(make, Plan.bearing(["AB"]), calls, wide, ()), -1)


class JudgeTest(unittest.TestCase):
    make = walkers()
    table = Kept(make, ANY, ONCE, (1, 2)).table

    def judge(self, *rows, wish=(1, 2)):
        return judge_kept(self.make, ANY, ONCE, wish, rows)

    def changed(self, at, *row):
        return (*self.table[:at], ("A", "A", *row), *self.table[at + 1:])

    def test_right(self):
        self.assertIsNone(self.judge(*self.table))
        self.assertIsNone(self.judge(*reversed(self.table)))
        self.assertIsNone(self.judge(*self.table, *self.table))
        self.assertIsNone(judge_kept(self.make, ANY, ONCE, [1, 2], [list(row) for row in self.table]))
        self.assertIsNone(self.judge(*self.table, wish=(0, 60)))

    def test_without_neighbours(self):
        alone = Plan.bearing(["A"])
        self.assertIsNone(judge_kept(self.make, alone, ONCE, (1, 2), ()))
        self.assertEqual(judge_kept(self.make, alone, ONCE, (1, 2), self.table), 0)
        self.assertEqual(judge_kept(self.make, alone, ONCE, (1, 2), (None,)), 0)

    def test_the_beginning_of_each_neighbours(self):
        for table in ((), [], None, 0, "abc", self.table[1:], [("A", "A", 0, 0, 0, ".", None, 1)]):
            self.assertEqual(judge_kept(self.make, ANY, ONCE, (1, 2), table), -1)
        make = Make("ab", KINDS[:2], 5)
        columns = Plan.bearing(["AB", "BA"])
        table = Kept(make, columns, ONCE, (0, 60)).table
        self.assertIsNone(judge_kept(make, columns, ONCE, (0, 60), table))
        for names in ("AB", "BA"):
            rows = [row for row in table if row[:2] != tuple(names)]
            self.assertEqual(judge_kept(make, columns, ONCE, (0, 60), rows), -1)
            # Also where other rows are not right.
            self.assertEqual(judge_kept(make, columns, ONCE, (0, 60), [None, *rows]), -1)

    def test_wish(self):
        self.assertEqual(self.judge(*self.table, wish=(1, 1)), 1)
        self.assertEqual(self.judge(*self.table, wish=(2, 2)), 0)
        wide = tuple((*row[:6], 0, 3) for row in self.table)
        self.assertEqual(self.judge(*wide), 0)
        self.assertEqual(self.judge(*wide, wish=(0, 3)), 0)
        self.assertEqual(self.judge(*self.changed(4, -1, 0, 0, ".", 0, 1), wish=(1, 2)), 4)
        self.assertEqual(self.judge(*self.changed(4, -1, 0, 0, ".", 1, 3), wish=(1, 2)), 4)

    def test_rows_without_the_form(self):
        good = self.table[4]
        for row in (None, 0, "abcdefgh", (), good[:7], (*good, 0), ("B", *good[1:]), ("A", "B", *good[2:]),
                    (["A"], *good[1:]), (True, *good[1:]), ("", *good[1:]), ("AA", *good[1:]),
                    (*good[:6], None, 1), (*good[:6], 1, None), (*good[:6], True, 1), (*good[:6], 1, True),
                    (*good[:2], 4, *good[3:]), (*good[:2], -2, *good[3:]), (*good[:5], "..", 1, 1),
                    (*good[:3], 2, *good[4:]), good[2:], {0: 1}):
            self.assertEqual(self.judge(*self.table, row), 5, row)
            self.assertEqual(self.judge(*self.table[:4], row), 3, row)

    def test_bounds_one_pace_less(self):
        self.assertEqual(self.judge(*self.changed(0, 0, 0, 0, ".", 2, 2)), 0)
        self.assertEqual(self.judge(*self.changed(0, 0, 0, 0, ".", 2, 1)), 0)
        self.assertEqual(self.judge(*self.changed(0, 0, 0, 0, ".", 1, 0), wish=(0, 2)), 0)
        self.assertEqual(self.judge(*self.changed(1, 1, 1, 0, "a", 2, 1)), 0)
        self.assertEqual(self.judge(*self.changed(1, 1, 1, 0, "a", 1, 2)), 1)
        self.assertEqual(self.judge(*self.changed(3, 2, 0, 1, "b", 2, 2)), 1)
        # A table with wider bounds than need be is right as long as they keep the wish.
        self.assertIsNone(self.judge(*self.changed(4, -1, 0, 0, ".", 1, 2)))
        self.assertIsNone(self.judge(*self.changed(4, -1, 0, 0, ".", 0, 60), wish=(0, 60)))

    def test_first_rows_tell(self):
        narrow = ("A", "A", 1, 1, 0, "a", 2, 1)
        self.assertIsNone(self.judge(*self.table, narrow))
        self.assertEqual(self.judge(self.table[0], narrow, *self.table[1:]), 0)

    def test_rows_of_no_neighbours(self):
        make = Make("ab", KINDS[:2], 1)
        columns = Plan.bearing(["AA"])
        table = Kept(make, columns, ONCE, (1, 2)).table
        self.assertIsNone(judge_kept(make, columns, ONCE, (1, 2), table))
        more = Kept(make, Plan.bearing(["AB"]), ONCE, (0, 60)).table
        self.assertEqual(judge_kept(make, columns, ONCE, (0, 60), (*table, *more)), len(table))
        # Rows of other kinds tell nothing of these.
        self.assertEqual(len(neighbours(make, columns)), 1)
        swapped = [("A", "B", *row[2:]) for row in table]
        self.assertEqual(judge_kept(make, columns, ONCE, (0, 60), (table[0], *swapped)), 0)

    def test_rows_never_reached(self):
        self.assertEqual(self.judge(*self.table, ("A", "A", 0, 1, 1, ".", 1, 1)), 5)
        self.assertIsNone(self.judge(*self.table, ("A", "A", -1, 1, 1, ".", 2, 2)))


if __name__ == "__main__":
    unittest.main()
