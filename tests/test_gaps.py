"""[12] lows and highs, the table of gaps, when a table is right."""

import unittest

from helpers import FREE, crowd, raised, random_make, random_plan, seeded, two_kinds, walkers
from tailheard.betweens import Betweens
from tailheard.errors import BadSign, NoBetween, TooMany, Unknown
from tailheard.gaps import Gaps, judge_gaps
from tailheard.makes import Make
from tailheard.plans import Plan
from tailheard.plantext import read_plan

# Goes one pace ahead with each beat until it halts: behind a slower one, gaps end nowhere.
FAST = ((0, 2, (0, 1, 0)), (1, 2, (1, 1, 0)))
SLOW = ((0, 2, (0, 0, 0)),)
RACE = Make("ab", [("F", 1, FAST), ("S", 1, SLOW)])


def extremes(make, ahead, behind, calls):
    """For each between the low and the high, found by walks between all pairs of betweens."""
    told = Betweens(make, ahead, behind, calls)
    rows = list(told)
    number = {between: at for at, between in enumerate(rows)}
    seat = make.seat_of(ahead, behind)
    found = {}
    for sign in (1, -1):
        least = [[0 if one == two else None for two in rows] for one in rows]
        for between in rows:
            for _, change, onto in told.onward(between):
                one, two = number[between], number[onto]
                if least[one][two] is None or sign * change < least[one][two]:
                    least[one][two] = sign * change
        for middle in range(len(rows)):
            for one in range(len(rows)):
                for two in range(len(rows)):
                    if least[one][middle] is not None and least[middle][two] is not None:
                        way = least[one][middle] + least[middle][two]
                        if least[one][two] is None or way < least[one][two]:
                            least[one][two] = max(way, -10 ** 6)
        for between, at in number.items():
            endless = any(least[middle][middle] < 0 and None not in (least[0][middle], least[middle][at])
                          for middle in range(len(rows)))
            found.setdefault(between, []).append(None if endless else seat + sign * least[0][at])
    return [(*between, *found[between]) for between in rows]


class GapsTest(unittest.TestCase):
    def test_two_walkers(self):
        told = Gaps(walkers(), "A", "A", read_plan("a.*b"))
        self.assertEqual(told.table, ((0, 0, 0, ".", 1, 1), (1, 1, 0, "a", 2, 2), (1, 1, 1, ".", 2, 2),
                                      (2, 0, 1, "b", 1, 1), (-1, 0, 0, ".", 1, 1)))
        self.assertEqual((told.least, told.greatest), (1, 2))
        self.assertEqual((len(told), list(told)), (5, list(told.table)))

    def test_bounds(self):
        told = Gaps(walkers(), "A", "A", FREE)
        self.assertEqual(told.bounds((0, 1, 0, "a")), (2, 2))
        self.assertEqual(told.bounds([0, 1, 0, "a"]), (2, 2))
        for between in ((False, 1, 0, "a"), (0, 1, 0, "b"), (0, 1, 0, ".."), None, (), [None], (0, 1, 0)):
            self.assertIs(raised(NoBetween, told.bounds, between).between, between)

    def test_without_a_greatest_gap(self):
        told = Gaps(RACE, "F", "S", FREE)
        self.assertEqual((told.least, told.greatest), (1, None))
        # Before the first word the gap is what it is at rest; behind it, it can be anything.
        self.assertEqual(told.bounds((0, 1, 0, "a")), (2, None))
        self.assertEqual(told.bounds((0, 0, 0, ".")), (1, None))

    def test_without_a_least_gap(self):
        told = Gaps(RACE, "S", "F", FREE)
        self.assertEqual((told.least, told.greatest), (None, 1))

    def test_none_beside_others(self):
        told = Gaps(RACE, "F", "S", read_plan(".2a.*"))
        self.assertEqual([row[4:] for row in told], [(1, 1), (1, 1), (1, 1), (2, 2), (3, None), (3, None)])
        self.assertEqual([row[0] for row in told], [0, 1, 2, 3, -1, 3])
        self.assertEqual((told.least, told.greatest), (1, None))
        # Both ways: the one ahead backs and goes as it likes.
        make = Make("ab", [("E", 1, ((0, 1, (0, 1, 2)), (1, 1, (1, 1, 2)), (-1, 1, (2, 1, 2)))), ("S", 1, SLOW)])
        both = Gaps(make, "E", "S", read_plan(".(a|b).*"))
        self.assertEqual([row[4:] for row in both][:2], [(1, 1), (1, 1)])
        self.assertEqual((both.least, both.greatest), (None, None))
        self.assertEqual(both.bounds((2, 1, 0, "a")), (2, 2))
        self.assertEqual(both.bounds((2, 2, 0, "b")), (0, 0))
        self.assertEqual(both.bounds((2, 1, 0, ".")), (3, None))
        self.assertEqual(both.bounds((2, 2, 0, ".")), (None, -1))

    def test_loops_that_cost_nothing(self):
        told = Gaps(walkers(space=3), "A", "A", FREE)
        self.assertEqual((told.least, told.greatest), (3, 4))

    def test_against_walks_between_all_pairs(self):
        rng = seeded(16)
        endless = 0
        for _ in range(60):
            make = random_make(rng, stride=rng.choice([0, 1, 2]))
            calls = random_plan(rng, ".ab", most=3, share=0.6)
            ahead, behind = rng.choice(make.all_names), rng.choice(make.all_names)
            told = Gaps(make, ahead, behind, calls)
            if len(told) > 40:
                continue
            rows = extremes(make, ahead, behind, calls)
            self.assertEqual(list(told), rows)
            lows = [row[4] for row in rows]
            highs = [row[5] for row in rows]
            self.assertEqual(told.least, None if None in lows else min(lows))
            self.assertEqual(told.greatest, None if None in highs else max(highs))
            endless += None in lows or None in highs
            self.assertIsNone(judge_gaps(make, ahead, behind, calls, told.table))
        self.assertGreater(endless, 5)

    def test_errors(self):
        bad = Plan([[("c", 0)]])
        self.assertEqual(raised(Unknown, Gaps, walkers(), "B", "C", bad).name, "B")
        self.assertEqual(raised(Unknown, Gaps, walkers(), "A", None, bad).name, None)
        self.assertEqual(raised(BadSign, Gaps, walkers(), "A", "A", bad).sign, "c")
        make, calls = crowd(601)
        self.assertEqual(raised(TooMany, Gaps, make, "A", "B", calls).word, "between")
        make, calls = crowd(600)
        self.assertEqual((Gaps(make, "A", "B", calls).least, Gaps(make, "A", "B", calls).greatest), (1, 1))


class JudgeTest(unittest.TestCase):
    calls = read_plan("a.*b")
    table = Gaps(walkers(), "A", "A", calls).table

    def judge(self, *rows):
        return judge_gaps(walkers(), "A", "A", self.calls, rows)

    def changed(self, at, *row):
        return (*self.table[:at], row, *self.table[at + 1:])

    def test_right(self):
        self.assertIsNone(self.judge(*self.table))
        self.assertIsNone(self.judge(*reversed(self.table)))
        self.assertIsNone(self.judge(*self.table, *self.table))
        self.assertIsNone(judge_gaps(walkers(), "A", "A", self.calls, [list(row) for row in self.table]))

    def test_the_beginning(self):
        for table in ((), [], None, 0, "abc", True, self.table[1:], ((0, 0, 0, ".", True, 1),),
                      ((False, 0, 0, ".", 1, 1),), {self.table[0]: 1}):
            self.assertEqual(judge_gaps(walkers(), "A", "A", self.calls, table), -1)
        # A first between in a row that is not right is there.
        self.assertEqual(self.judge((0, 0, 0, ".", 9, 9)), 0)
        self.assertEqual(self.judge(*self.table[1:], (0, 0, 0, ".", 9, 9)), 4)

    def test_rows_without_the_form(self):
        for row in (None, 0, "abcdef", (), (0, 0, 0, ".", 1), (0, 0, 0, ".", 1, 1, 1), (4, 0, 0, ".", 1, 1),
                    (-2, 0, 0, ".", 1, 1), (0, 2, 0, ".", 1, 1), (0, 0, -1, ".", 1, 1), (0, 0, 0, "", 1, 1),
                    (0, 0, 0, "..", 1, 1), (0, 0, 0, "c", 1, 1), (0, 0, 0, None, 1, 1), (True, 0, 0, ".", 1, 1),
                    (0, True, 0, ".", 1, 1), (0, 0, 0, ".", True, 1), (0, 0, 0, ".", 1, False),
                    (0, 0, 0, ".", "1", 1), ([0], 0, 0, ".", 1, 1),
                    (-1, 0, 0, ".", True, 1), (-1, 0, 0, ".", 1, True), (3, 0, 0, ".", 1, 1), (-1, 0, 2, ".", 1, 1),
                    (-1, -1, 0, ".", 1, 1), (0, 0, 0, [], 1, 1), {0: 1}):
            self.assertEqual(self.judge(*self.table, row), 5, row)
            self.assertEqual(self.judge(self.table[0], row, *self.table[2:]), 0, row)

    def test_bounds(self):
        for row in ((0, 0, 0, ".", 1, 1), (0, 0, 0, ".", 1, 1)):
            self.assertIsNone(self.judge(*self.changed(0, *row)))
        # The seat must lie between the bounds of the first between.
        self.assertEqual(self.judge(*self.changed(0, 0, 0, 0, ".", 2, 2)), 0)
        self.assertEqual(self.judge(*self.changed(0, 0, 0, 0, ".", 0, 0)), 0)
        self.assertEqual(self.judge(*self.changed(0, 0, 0, 0, ".", 2, 1)), 0)
        self.assertEqual(self.judge(*self.changed(0, 0, 0, 0, ".", 1, 0)), 0)
        self.assertEqual(self.judge(*self.changed(0, 0, 0, 0, ".", None, 0)), 0)
        self.assertEqual(self.judge(*self.changed(0, 0, 0, 0, ".", 2, None)), 0)
        # One pace too narrow at either end: the row from which a step leads there is not right.
        self.assertEqual(self.judge(*self.changed(1, 1, 1, 0, "a", 3, 2)), 0)
        self.assertEqual(self.judge(*self.changed(1, 1, 1, 0, "a", 2, 1)), 0)
        self.assertEqual(self.judge(*self.changed(2, 1, 1, 1, ".", 3, 3)), 1)
        # One pace too wide: what the row itself leads to is too narrow.
        self.assertEqual(self.judge(*self.changed(1, 1, 1, 0, "a", 1, 2)), 1)
        self.assertEqual(self.judge(*self.changed(1, 1, 1, 0, "a", 2, 3)), 1)
        self.assertIsNone(self.judge(*self.changed(4, -1, 0, 0, ".", 0, 9)))
        self.assertIsNone(self.judge(*self.changed(4, -1, 0, 0, ".", None, None)))
        self.assertIsNone(self.judge(*self.changed(4, -1, 0, 0, ".", -10 ** 39, 10 ** 39)))

    def test_none_is_no_bound(self):
        wide = tuple((*row[:4], None, None) for row in self.table)
        self.assertIsNone(self.judge(*wide))
        # From a row without a low, steps lead to rows without a low only.
        self.assertEqual(self.judge(*self.changed(1, 1, 1, 0, "a", None, 2)), 1)
        self.assertEqual(self.judge(*self.changed(1, 1, 1, 0, "a", 2, None)), 1)
        self.assertEqual(self.judge(*wide[:4], self.table[4]), 3)

    def test_first_rows_tell(self):
        # Two rows of one between: others ask the first one; each is judged with its own bounds.
        narrow = (1, 1, 0, "a", 3, 1)
        self.assertEqual(self.judge(self.table[0], narrow, *self.table[1:]), 0)
        self.assertEqual(self.judge(*self.table, narrow), None)
        wide = (1, 1, 0, "a", 1, 2)
        self.assertEqual(self.judge(*self.table, wide), 5)
        self.assertEqual(self.judge(*self.table, (0, 0, 0, ".", 0, 1)), 5)

    def test_first_rows_tell_where_a_step_leads_back(self):
        make = Make("a", [("A", 1, ((0, 1, (0, 0)),))])
        calls = Plan([[(".", 0)]], [0])
        ended = (-1, 0, 0, ".", 1, 1)
        self.assertIsNone(judge_gaps(make, "A", "A", calls, ((0, 0, 0, ".", 1, 1), ended)))
        # The second row of the first between has a lower low than the first one, to which a step leads back.
        rows = ((0, 0, 0, ".", 1, 1), (-1, 0, 0, ".", 0, 1), (0, 0, 0, ".", 0, 1))
        self.assertEqual(judge_gaps(make, "A", "A", calls, rows), 2)

    def test_rows_lacking(self):
        for at in range(1, 5):
            self.assertEqual(self.judge(*self.table[:at], *self.table[at + 1:]), (0, 0, 1, 1, 3)[at])

    def test_rows_never_reached(self):
        self.assertEqual(self.judge(*self.table, (0, 1, 1, "a", 1, 1)), 5)
        self.assertIsNone(self.judge(*self.table, (-1, 1, 1, ".", 5, 5)))
        self.assertEqual(self.judge(*self.table, (-1, 1, 0, ".", 5, 5)), 5)

    def test_errors(self):
        bad = Plan([[("c", 0)]])
        self.assertEqual(raised(Unknown, judge_gaps, walkers(), "B", "C", bad, None).name, "B")
        self.assertEqual(raised(Unknown, judge_gaps, walkers(), "A", "C", bad, None).name, "C")
        self.assertEqual(raised(BadSign, judge_gaps, walkers(), "A", "A", bad, None).sign, "c")
        make, calls = crowd(601)
        self.assertEqual(judge_gaps(make, "A", "B", calls, ()), -1)

    def test_other_kinds_and_windows(self):
        make = two_kinds(space=3)
        told = Gaps(make, "B", "A", FREE)
        self.assertEqual(told.table[0][:4], (0, 0, 0, ".."))
        self.assertIsNone(judge_gaps(make, "B", "A", FREE, told.table))
        self.assertEqual(judge_gaps(make, "A", "A", FREE, told.table), -1)


if __name__ == "__main__":
    unittest.main()
