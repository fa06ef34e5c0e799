"""[16] orders of groups, parts, bounds, when a table is right."""

import itertools
import unittest

from helpers import FREE, crowd, raised, random_make, random_plan, seeded
from tailheard.errors import BadColumn, BadLeast, BadSign, TooMany
from tailheard.makes import Make
from tailheard.needs import need
from tailheard.plans import Plan
from tailheard.plantext import read_plan
from tailheard.seating import Seating, judge_seating

# Called `b`, a group of the kind B backs for one beat, by one pace; D backs by two; E backs when called `a`; S stands.
KINDS = [("S", 1, ((0, 3, (0, 0, 0)),)), ("B", 1, ((0, 2, (0, 0, 1)), (-1, 2, (0, 0, 0)))),
         ("D", 1, ((0, 1, (0, 0, 1)), (-2, 1, (0, 0, 0)))), ("E", 1, ((0, 1, (0, 1, 0)), (-1, 1, (0, 0, 0))))]
MAKE = Make("ab", KINDS)
ONCE = read_plan("b")


class SeatingTest(unittest.TestCase):
    def test_two_groups(self):
        told = Seating(MAKE, ONCE, 1, "SB")
        # A group of the kind S ahead needs 1, one of the kind B ahead needs 2.
        self.assertEqual((told.length, told.column), (6, "SB"))
        self.assertEqual(told.table, (("B", "B", 2), ("S", "S", 3), ("BS", "B", 6), ("BS", "S", 7)))
        self.assertEqual((len(told), list(told)), (4, list(told.table)))

    def test_one_group(self):
        told = Seating(MAKE, FREE, 60, "D")
        self.assertEqual((told.length, told.column, told.table), (1, "D", (("D", "D", 1),)))

    def test_first_of_the_shortest(self):
        told = Seating(MAKE, Plan([[]]), 0, "SDBD")
        self.assertEqual((told.length, told.column), (7, "BDDS"))

    def test_no_order_at_all(self):
        told = Seating(MAKE, FREE, 0, "BE")
        self.assertEqual((told.length, told.column), (None, None))
        self.assertEqual(told.table, (("B", "B", 2), ("E", "E", 1)))
        one_way = Seating(MAKE, FREE, 0, "SB")
        self.assertEqual((one_way.length, one_way.column), (5, "SB"))
        self.assertEqual(one_way.table, (("B", "B", 2), ("S", "S", 3), ("BS", "B", 5)))

    def test_needs_above_forty(self):
        self.assertEqual(Seating(MAKE, ONCE, 60, "BD").length, 64)
        self.assertEqual(Seating(MAKE, ONCE, 60, "BD").column, "BD")

    def test_against_all_orders(self):
        rng = seeded(20)
        nothing = 0
        for _ in range(100):
            make = random_make(rng, kinds=rng.randint(1, 3))
            calls = random_plan(rng, ".ab", share=0.6)
            groups = "".join(rng.choice(make.all_names) for _ in range(rng.randint(1, 5)))
            least = rng.randint(0, 4)
            told = Seating(make, calls, least, groups)
            needs = {(one, two): need(make, one, two, calls, least) for one in make for two in make}

            def length(order):
                steps = [needs[pair] for pair in zip(order, order[1:])]
                return None if None in steps else sum(steps) + sum(make[name][0][1] for name in order)

            whole = sorted((length(order), "".join(order)) for order in set(itertools.permutations(groups))
                           if length(order) is not None)
            self.assertEqual((told.length, told.column), whole[0] if whole else (None, None))
            nothing += not whole
            bounds = {}
            for many in range(1, len(groups) + 1):
                for order in set(itertools.permutations(groups, many)):
                    if length(order) is not None:
                        part = ("".join(sorted(order)), order[-1])
                        bounds[part] = min(bounds.get(part, 9999), length(order))
            rows = [(*part, bound) for part, bound in bounds.items()]
            self.assertEqual(list(told), sorted(rows, key=lambda row: (len(row[0]), row)))
            self.assertIsNone(judge_seating(make, calls, least, groups, told.table))
        self.assertGreater(nothing, 5)

    def test_seven_groups(self):
        told = Seating(MAKE, ONCE, 1, "SBDSBDS")
        self.assertEqual(sorted(told.column), sorted("SBDSBDS"))
        self.assertEqual(len([row for row in told if len(row[0]) == 7]), 3)


class ErrorsTest(unittest.TestCase):
    def test_order(self):
        bad = Plan([[("c", 0)]])
        for call in (Seating, lambda *things: judge_seating(*things, None)):
            self.assertEqual(raised(BadSign, call, MAKE, bad, -1, "").sign, "c")
            for least in (-1, 61, True, None, "1"):
                self.assertIs(raised(BadLeast, call, MAKE, FREE, least, "").least, least)
            for groups, at in (("", -1), ("S" * 8, -1), ("?" * 8, -1), (None, -1), (["S"], -1), (1, -1), ("SBX", 2),
                               ("xS", 0), ("S.", 1)):
                self.assertEqual(raised(BadColumn, call, MAKE, FREE, 0, groups).number, at)
            make, calls = crowd(601)
            for groups in ("AA", "AB", "CB", "CCA"):
                self.assertEqual(raised(TooMany, call, make, calls, 0, groups).word, "between")
        make, calls = crowd(601)
        # No two groups of the kind A, so it is never behind or ahead of its like.
        self.assertEqual(Seating(make, calls, 0, "A").length, 1)
        self.assertEqual(Seating(make, calls, 0, "CC").length, 2)
        make, calls = crowd(600)
        self.assertEqual(Seating(make, calls, 2, "CBA").length, 7)


class JudgeTest(unittest.TestCase):
    table = Seating(MAKE, ONCE, 1, "SBB").table

    def judge(self, *rows):
        return judge_seating(MAKE, ONCE, 1, "SBB", rows)

    def test_table(self):
        # Needs for 1: S ahead 1; B ahead of S 2; B ahead of B: 2, too, as the one behind backs a beat later.
        self.assertEqual(self.table, (("B", "B", 2), ("S", "S", 3), ("BB", "B", 6), ("BS", "B", 6), ("BS", "S", 7),
                                      ("BBS", "B", 10), ("BBS", "S", 11)))

    def test_right(self):
        self.assertIsNone(self.judge(*self.table))
        self.assertIsNone(self.judge(*reversed(self.table)))
        self.assertIsNone(self.judge(*self.table, *self.table))
        self.assertIsNone(judge_seating(MAKE, ONCE, 1, "SBB", [list(row) for row in self.table]))
        # Lesser bounds are right as long as none asks for less.
        self.assertIsNone(self.judge(*[(*row[:2], -10 * len(row[0])) for row in self.table]))

    def test_the_beginning(self):
        for table in ((), [], None, 0, "abc", self.table[1:], self.table[:1], (self.table[1], ("B", "B", 3)),
                      (self.table[1], ("B", "B", True)), (("B", "B", 3), *self.table)):
            self.assertEqual(judge_seating(MAKE, ONCE, 1, "SBB", table), -1)
        # The first row of the part counts, and its bound at most the body at rest.
        self.assertEqual(self.judge(*self.table, ("B", "B", 3)), None)
        self.assertEqual(self.judge(*self.table, ("B", "B", 1)), len(self.table))
        self.assertEqual(self.judge(*self.table[:2]), 0)

    def test_rows_without_the_form(self):
        for row in (None, 0, "BBS", (), ("B", "B"), ("B", "B", 2, 2), ("", "", 0), ("B", "", 2), ("B", "S", 2),
                    ("SB", "B", 6), ("SS", "S", 7), ("BBB", "B", 9), ("BD", "D", 9), ("D", "D", 9), ("B", "B", None),
                    ("B", "B", True), ("B", "B", "2"), (["B"], "B", 2), ("B", ["B"], 2), ("BB", "BB", 6),
                    (("B", "S"), "S", 7), (None, "B", 2), {0: 1}):
            self.assertEqual(self.judge(*self.table, row), len(self.table), row)
            self.assertEqual(self.judge(*self.table[:2], row, *self.table[3:]), 0, row)

    def test_bounds_one_pace_too_great(self):
        for at in range(2, len(self.table)):
            row = self.table[at]
            wrong = self.judge(*self.table[:at], (*row[:2], row[2] + 1), *self.table[at + 1:])
            self.assertIsNotNone(wrong)
            self.assertLess(wrong, at)
        self.assertEqual(self.judge(*self.table[:6], ("BBS", "S", 99)), 2)

    def test_first_rows_tell(self):
        self.assertIsNone(self.judge(*self.table, ("BB", "B", 7)))
        self.assertEqual(self.judge(*self.table[:2], ("BB", "B", 7), *self.table[2:]), 0)
        self.assertEqual(self.judge(*self.table, ("BB", "B", 5)), len(self.table))

    def test_rows_lacking(self):
        for at in range(2, len(self.table)):
            self.assertIsNotNone(self.judge(*self.table[:at], *self.table[at + 1:]))

    def test_who_cannot_be_seated_is_not_asked_for(self):
        table = Seating(MAKE, FREE, 0, "BE").table
        self.assertIsNone(judge_seating(MAKE, FREE, 0, "BE", table))
        self.assertIsNone(judge_seating(MAKE, FREE, 0, "BE", (*table, ("BE", "E", 0))))


if __name__ == "__main__":
    unittest.main()
