"""[14] parted betweens, ranks, the least string and the least loop, when a table is right."""

import unittest

from helpers import FREE, STRETCH, WALK, crowd, raised, random_make, random_plan, seeded, two_kinds, walkers
from tailheard.betweens import Betweens
from tailheard.errors import BadSign, NotSteady, TooMany, Unknown
from tailheard.makes import Make
from tailheard.parted import Parted, judge_parted
from tailheard.plans import Plan
from tailheard.plantext import read_plan

ONCE = read_plan("a.*b")
# With a lag of 2, words run for two beats.
SLOW = Make("ab", [("A", 2, WALK)])


def least_loop(told, home):
    """The least string along which parted betweens lead from one back to it, found layer by layer."""
    layer = {home: ""}
    seen = set()
    while layer:
        onward = {}
        for between, text in sorted(layer.items(), key=lambda pair: (pair[1], pair[0])):
            for sign, _, onto in told.onward(between):
                if onto[1] != onto[2]:
                    onward[onto] = min(onward.get(onto, text + sign), text + sign)
        if home in onward:
            return onward[home]
        layer = {onto: text for onto, text in onward.items() if onto not in seen}
        seen |= set(layer)
    return None


class PartedTest(unittest.TestCase):
    def test_always_ending(self):
        told = Parted(walkers(), "A", ONCE)
        self.assertIs(bool(told), True)
        self.assertEqual(told.table, (((0, 0, 0, "."), 0), ((1, 1, 0, "a"), 2), ((1, 1, 1, "."), 0),
                                      ((2, 0, 1, "b"), 1), ((-1, 0, 0, "."), 0)))
        self.assertEqual((told.longest, told.text, told.loop), (2, None, None))
        self.assertEqual((len(told), list(told)), (5, list(told.table)))

    def test_lags(self):
        told = Parted(SLOW, "A", read_plan("a.*"))
        self.assertEqual(told.longest, 2)
        self.assertEqual(dict(told.table)[(1, 1, 0, ".a")], 2)
        self.assertEqual(dict(told.table)[(1, 1, 0, "a.")], 1)

    def test_never_parted(self):
        told = Parted(Make("a", [("A", 1, ((0, 1, (0, 0)),))]), "A", Plan([[("a", 0)]]))
        self.assertEqual((bool(told), told.longest), (True, 0))
        self.assertEqual({rank for _, rank in told}, {0})

    def test_for_ever(self):
        told = Parted(walkers(), "A", FREE)
        self.assertIs(bool(told), False)
        self.assertEqual((told.table, told.longest, len(told), list(told)), (None, None, 0, []))
        # Called by turns, the two words keep both apart.
        self.assertEqual((told.text, told.loop), ("a", "ba"))

    def test_loops_of_one_step(self):
        # The word `a` turns each group round, so it parts them as long as it is called.
        make = Make("a", [("A", 1, ((0, 1, (0, 1)), (0, 1, (1, 0))))])
        told = Parted(make, "A", Plan([[("a", 0)]]))
        self.assertEqual((told.text, told.loop), ("a", "aa"))
        three = Make("a", [("A", 1, ((0, 1, (0, 1)), (0, 1, (1, 2)), (0, 1, (2, 0))))])
        self.assertEqual((Parted(three, "A", Plan([[("a", 0)]])).text, Parted(three, "A", Plan([[("a", 0)]])).loop),
                         ("a", "aaa"))

    def test_first_between_that_has_a_loop(self):
        # On the way to the loop, betweens are parted, too, but no loop leads back to them.
        make = Make("ab", [("A", 1, ((0, 1, (0, 1, 0)), (0, 1, (1, 2, 1)), (0, 1, (2, 2, 3)), (0, 1, (3, 3, 2))))])
        told = Parted(make, "A", read_plan("ab?a(bb)*"))
        self.assertEqual((told.text, told.loop), ("aab", "bb"))

    def test_against_plain_lookers(self):
        rng = seeded(18)
        ending = 0
        for _ in range(120):
            make = random_make(rng, kinds=1, steady=True)
            calls = random_plan(rng, ".ab", share=0.6)
            name = make.all_names
            told = Parted(make, name, calls)
            betweens = Betweens(make, name, name, calls)
            loops = [(betweens[each], least_loop(betweens, each)) for each in betweens if each[1] != each[2]]
            loops = [pair for pair in loops if pair[1] is not None]
            self.assertEqual(bool(told), not loops)
            if loops:
                self.assertEqual((told.text, told.loop), loops[0])
                continue
            ending += 1
            ranks = dict(told.table)
            self.assertEqual(list(ranks), list(betweens))
            for between, rank in told:
                behind = [ranks[onto] for _, _, onto in betweens.onward(between) if onto[1] != onto[2]]
                self.assertEqual(rank, 0 if between[1] == between[2] else 1 + max(behind, default=0))
            self.assertEqual(told.longest, max(ranks.values()))
            self.assertIsNone(judge_parted(make, name, calls, told.table))
        self.assertGreater(ending, 20)
        self.assertLess(ending, 110)

    def test_errors(self):
        make = two_kinds()
        bad = Plan([[("c", 0)]])
        for call in (Parted, lambda *things: judge_parted(*things, None)):
            for name in ("C", "", "AB", None, True, ["A"]):
                self.assertIs(raised(Unknown, call, make, name, bad).name, name)
            self.assertEqual(raised(NotSteady, call, make, "B", bad).name, "B")
            self.assertEqual(raised(BadSign, call, make, "A", bad).sign, "c")
        make, calls = crowd(601)
        self.assertEqual(raised(TooMany, Parted, make, "A", calls).word, "between")
        self.assertEqual(judge_parted(make, "A", calls, ()), -1)
        make, calls = crowd(600)
        self.assertEqual(len(Parted(make, "A", calls)), 600)

    def test_steady_is_asked_of_all_standings(self):
        # The standing that silence moves is never reached.
        make = Make("a", [("A", 1, ((0, 1, (0, 0)), (0, 1, (0, 0))))])
        self.assertEqual(raised(NotSteady, Parted, make, "A", Plan([[]])).name, "A")
        self.assertEqual(raised(NotSteady, Parted, Make("ab", [("Z", 1, STRETCH)]), "Z", FREE).name, "Z")


class JudgeTest(unittest.TestCase):
    calls = read_plan("a.*b")
    table = Parted(SLOW, "A", calls).table

    def judge(self, *rows):
        return judge_parted(SLOW, "A", self.calls, rows)

    def test_right(self):
        self.assertIsNone(self.judge(*self.table))
        self.assertIsNone(self.judge(*reversed(self.table)))
        self.assertIsNone(self.judge(*self.table, *self.table))
        self.assertIsNone(judge_parted(SLOW, "A", self.calls, [[list(row[0]), row[1]] for row in self.table]))

    def test_table_as_expected(self):
        self.assertEqual(self.table, (
            ((0, 0, 0, ".."), 0), ((1, 1, 0, ".a"), 4), ((1, 1, 0, "a."), 3), ((2, 0, 0, "ab"), 0),
            ((1, 1, 1, ".."), 0), ((2, 0, 1, ".b"), 2), ((-1, 0, 1, "b."), 1), ((-1, 0, 0, ".."), 0)))

    def test_the_beginning(self):
        for table in ((), [], None, 0, "ab", self.table[1:], (((0, 0, 0, ".."), True),), (((0, 0, 0, ".."), -1),),
                      (((0, 0, False, ".."), 0),), ((0, 0, 0, "..", 0),)):
            self.assertEqual(judge_parted(SLOW, "A", self.calls, table), -1)
        self.assertEqual(self.judge(self.table[0]), 0)

    def test_rows_without_the_form(self):
        many = len(self.table)
        good = self.table[0][0]
        for row in (None, 0, "ab", (), (good,), (good, 0, 0), (good, -1), (good, True), (good, None), (good, "0"),
                    (None, 0), ((0, 0, 0), 0), ((*good, 0), 0), ((3, *good[1:]), 0), ((-1, 0, 2, ".."), 0),
                    ((0, 0, 0, "."), 0), ((0, 2, 0, ".."), 0), ((5, 0, 0, ".."), 0), ((-2, 0, 0, ".."), 0),
                    ((0, True, 0, ".."), 0), (([0], 0, 0, ".."), 0), {0: 1}, (*good, 0)):
            self.assertEqual(self.judge(*self.table, row), many, row)
            self.assertEqual(self.judge(self.table[0], row, *self.table[2:]), 0, row)

    def test_ranks(self):
        parted = [at for at, (between, _) in enumerate(self.table) if between[1] != between[2]]
        for at in parted:
            between, rank = self.table[at]
            self.assertIsNotNone(self.judge(*self.table[:at], (between, rank - 1), *self.table[at + 1:]))
            self.assertIsNotNone(self.judge(*self.table[:at], (between, 0), *self.table[at + 1:]))
        wide = tuple((between, 7 * rank) for between, rank in self.table)
        self.assertIsNone(self.judge(*wide))
        # What is not parted can have any rank.
        self.assertIsNone(self.judge(*[(between, rank if between[1] != between[2] else 99)
                                       for between, rank in self.table]))
        self.assertEqual(self.judge(self.table[0], ((1, 1, 0, ".a"), 3), *self.table[2:]), 1)
        self.assertIsNone(self.judge(self.table[0], ((1, 1, 0, ".a"), 5), *self.table[2:]))

    def test_first_rows_tell(self):
        great = ((1, 1, 0, "a."), 9)
        self.assertEqual(self.judge(self.table[0], great, *self.table[1:]), 2)
        self.assertIsNone(self.judge(*self.table, great))
        self.assertEqual(self.judge(*self.table, ((1, 1, 0, ".a"), 0)), len(self.table))

    def test_loops_have_no_ranks(self):
        betweens = Betweens(walkers(), "A", "A", FREE)
        rows = [(between, 5) for between in betweens]
        wrong = judge_parted(walkers(), "A", FREE, rows)
        self.assertNotEqual(rows[wrong][0][1], rows[wrong][0][2])

    def test_a_row_that_leads_back_to_itself(self):
        # With the word called for ever, the parted between leads to another parted one and back: no ranks are right.
        make = Make("a", [("A", 1, ((0, 1, (0, 1)), (0, 1, (1, 0))))])
        calls = Plan([[("a", 0)]])
        rows = [(between, rank) for rank, between in enumerate(Betweens(make, "A", "A", calls))]
        self.assertIsNotNone(judge_parted(make, "A", calls, rows))

    def test_rows_lacking(self):
        for at in range(1, len(self.table)):
            self.assertIsNotNone(self.judge(*self.table[:at], *self.table[at + 1:]), at)

    def test_rows_never_reached(self):
        self.assertEqual(self.judge(*self.table, ((0, 1, 1, ".."), 0)), len(self.table))
        self.assertIsNone(self.judge(*self.table, ((-1, 1, 1, ".."), 0)))
        # Parted for ever, as nothing ever comes.
        self.assertEqual(self.judge(*self.table, ((-1, 1, 0, ".."), 9)), len(self.table))


if __name__ == "__main__":
    unittest.main()
