"""[9] plans that are alike, closed tables of pairs."""

import unittest

from helpers import FREE, all_texts, bears, random_plan, seeded
from tailheard.planpairs import PlanPair, judge_plans
from tailheard.plans import Plan, least_plan

ONE = Plan([[("a", 1), ("b", 2)], [("c", 3)], [("c", 3)], []], [3])
TWO = least_plan(ONE)


class PlanPairTest(unittest.TestCase):
    def test_alike(self):
        pair = PlanPair(ONE, TWO)
        self.assertIs(bool(pair), True)
        self.assertEqual(pair.table, ((0, 0), (1, 1), (2, 1), (3, 2)))
        self.assertEqual((pair.text, pair.bearer), (None, None))
        self.assertEqual((len(pair), list(pair)), (4, list(pair.table)))
        self.assertEqual(PlanPair(TWO, ONE).table, ((0, 0), (1, 1), (1, 2), (2, 3)))
        self.assertEqual(PlanPair(FREE, FREE).table, ((0, 0),))

    def test_unlike(self):
        pair = PlanPair(ONE, Plan.bearing(["ac"]))
        self.assertIs(bool(pair), False)
        self.assertEqual((pair.table, pair.text, pair.bearer), (None, "bc", 0))
        self.assertEqual((len(pair), list(pair)), (0, []))
        self.assertEqual(PlanPair(Plan.bearing(["ac"]), ONE).bearer, 1)
        empty = PlanPair(Plan.bearing([""]), Plan.bearing(["a"]))
        self.assertEqual((empty.text, empty.bearer), ("", 0))
        # The least of all strings that part them, whoever bears it.
        both = PlanPair(Plan.bearing(["b", "aaa"]), Plan.bearing(["aa", "c"]))
        self.assertEqual((both.text, both.bearer), ("b", 0))

    def test_against_all_strings(self):
        rng = seeded(10)
        alike = 0
        for _ in range(300):
            one, two = random_plan(rng, "ab", 3), random_plan(rng, "ab", 3)
            pair = PlanPair(one, two)
            apart = [text for text in all_texts("ab", 7) if bears(one, text) != bears(two, text)]
            self.assertEqual(bool(pair), not apart)
            self.assertEqual(bool(pair), least_plan(one) == least_plan(two))
            if apart:
                self.assertEqual((pair.text, pair.bearer), (apart[0], 0 if bears(one, apart[0]) else 1))
                self.assertIsNone(pair.table)
                continue
            alike += 1
            firsts = {}
            for text in all_texts("ab", 7):
                states = (follow(one, text), follow(two, text))
                if None not in states:
                    firsts.setdefault(states, text)
            self.assertEqual(list(pair), list(firsts))
            self.assertIsNone(judge_plans(one, two, pair.table))
        self.assertGreater(alike, 30)


def follow(plan, text):
    state = 0
    for sign in text:
        state = None if state is None else plan(state, sign)
    return state


class JudgeTest(unittest.TestCase):
    table = PlanPair(ONE, TWO).table

    def judge(self, *rows):
        return judge_plans(ONE, TWO, rows)

    def test_right(self):
        self.assertIsNone(self.judge(*self.table))
        self.assertIsNone(self.judge(*reversed(self.table)))
        self.assertIsNone(self.judge(*self.table, *self.table))
        self.assertIsNone(judge_plans(ONE, TWO, [list(row) for row in self.table]))

    def test_the_beginning(self):
        for table in ((), [], None, 0, "00", True, self.table[1:], (None, 5), ((0, False), (False, 0)), {(0, 0): 1}):
            self.assertEqual(judge_plans(ONE, TWO, table), -1)
        # A row that is not right is enough for the beginning.
        self.assertEqual(self.judge((0, 0)), 0)
        self.assertEqual(self.judge(self.table[1], (0, 0)), 0)

    def test_rows_without_the_form(self):
        for row in (None, 0, "11", (), (1,), (1, 1, 1), (1, 3), (4, 1), (-1, 1), (1, True), (True, 1), (1, None),
                    ("1", 1), ([1], 1), {1: 1}):
            self.assertEqual(self.judge(*self.table, row), 4, row)
            # Such rows tell nothing to others.
            self.assertEqual(self.judge(self.table[0], row, *self.table[2:]), 0, row)

    def test_wrong_rows(self):
        self.assertEqual(self.judge(*self.table[:3]), 1)
        self.assertEqual(self.judge(*self.table, (0, 1)), 4)
        self.assertEqual(self.judge(*self.table, (3, 1)), 4)
        self.assertEqual(self.judge(*self.table, (1, 2)), 4)

    def test_ends_and_signs(self):
        one, two = Plan([[("a", 0)]]), Plan([[("a", 1)], [("a", 0)]])
        self.assertIsNone(judge_plans(one, two, ((0, 0), (0, 1))))
        self.assertEqual(judge_plans(one, two, ((0, 0),)), 0)
        self.assertEqual(judge_plans(one, Plan([[("a", 1)], [("a", 0)]], [0]), ((0, 0), (0, 1))), 1)
        self.assertEqual(judge_plans(one, Plan([[("a", 0), ("b", 0)]]), ((0, 0),)), 0)
        self.assertEqual(judge_plans(one, Plan([[("b", 0)]]), ((0, 0),)), 0)
        self.assertEqual(judge_plans(one, Plan([[]]), ((0, 0),)), 0)

    def test_rows_never_reached_are_judged(self):
        one = Plan([[("a", 0)], [("b", 0)]])
        self.assertEqual(judge_plans(one, one, ((0, 0), (1, 0))), 1)
        self.assertIsNone(judge_plans(one, one, ((0, 0), (1, 1))))


if __name__ == "__main__":
    unittest.main()
