"""[7] what is heard, hearing states and their steps; neighbours of a column plan ([6])."""

import unittest

from helpers import FREE, all_texts, hears, raised, random_plan, seeded, two_kinds
from tailheard.errors import BadSign, NoStanding
from tailheard.heard import hearing_states, is_heard, neighbours, steps
from tailheard.plans import Plan

PLAN = Plan([[("a", 1)], [(".", 0), ("b", 2)], []], [0, 2])


class StepsTest(unittest.TestCase):
    def test_each_state(self):
        self.assertEqual(steps(PLAN, 0), ((".", -1), ("a", 1)))
        self.assertEqual(steps(PLAN, 1), ((".", 0), ("b", 2)))
        self.assertEqual(steps(PLAN, 2), ((".", -1),))
        self.assertEqual(steps(PLAN, -1), ((".", -1),))
        self.assertEqual(steps(PLAN, -2), ((".", -2), (".", -1), ("a", 1)))
        self.assertEqual(steps(FREE, 0), ((".", -1), (".", 0), ("a", 0), ("b", 0)))
        self.assertEqual(steps(FREE, -2), ((".", -2), (".", -1), (".", 0), ("a", 0), ("b", 0)))
        self.assertEqual(steps(Plan([[("A", 0)], [(".", 0)]], [0]), 1), ((".", 0),))

    def test_no_such_state(self):
        for state in (-3, 3, True, False, None, "0", [0], (0,)):
            self.assertIs(raised(NoStanding, steps, PLAN, state).standing, state)


class HeardTest(unittest.TestCase):
    def test_some(self):
        for text in ("", ".", "...", "a", "ab", "ab..", "a.", "a..", "a.a", "a.ab."):
            self.assertIs(is_heard(PLAN, text), True, text)
        for text in ("b", ".a", "aa", "ab.a", "a..a", "abb", "?", "A"):
            self.assertIs(is_heard(PLAN, text), False, text)

    def test_states(self):
        self.assertEqual(hearing_states(PLAN, ""), (0,))
        self.assertEqual(hearing_states(PLAN, "."), (-1,))
        self.assertEqual(hearing_states(FREE, "."), (-1, 0))
        self.assertEqual(hearing_states(FREE, "..a"), (0,))
        self.assertEqual(hearing_states(PLAN, "b"), ())
        self.assertEqual(hearing_states(PLAN, "ab"), (2,))
        self.assertEqual(hearing_states(PLAN, "ab."), (-1,))

    def test_against_all_strings(self):
        rng = seeded(6)
        for _ in range(80):
            plan = random_plan(rng, ".ab")
            for text in all_texts(".ab", 5):
                states = hearing_states(plan, text)
                self.assertEqual(is_heard(plan, text), hears(plan, text))
                self.assertEqual(bool(states), hears(plan, text))
                self.assertEqual(states, tuple(sorted(set(states))))
                self.assertLessEqual(len(states), 2)


class NeighboursTest(unittest.TestCase):
    def test_in_order(self):
        make = two_kinds()
        plan = Plan([[("B", 1)], [("A", 1), ("B", 2)], []], [2])
        self.assertEqual(neighbours(make, plan), (("A", "A"), ("A", "B"), ("B", "A"), ("B", "B")))
        self.assertEqual(neighbours(make, Plan.bearing(["BA", "A", ""])), (("B", "A"),))
        self.assertEqual(neighbours(make, Plan.bearing(["A", "B"])), ())
        self.assertEqual(neighbours(make, Plan([[]])), ())

    def test_states_that_nothing_leads_to(self):
        plan = Plan([[("A", 1)], [], [("A", 3)], [("B", 3)]])
        self.assertEqual(neighbours(two_kinds(), plan), ())

    def test_against_all_columns(self):
        rng = seeded(7)
        make = two_kinds()
        for _ in range(100):
            plan = random_plan(rng, "AB")
            found = {pair for text in plan.strings(9) for pair in zip(text, text[1:])}
            self.assertEqual(neighbours(make, plan), tuple(sorted(found)))

    def test_bad_signs(self):
        make = two_kinds()
        # State by state, pair by pair, also where nothing leads to the state.
        plan = Plan([[("A", 0)], [("A", 0), ("C", 0), ("a", 0)], [(".", 0)]])
        self.assertEqual(raised(BadSign, neighbours, make, plan).sign, "C")
        self.assertEqual(raised(BadSign, neighbours, make, FREE).sign, ".")


if __name__ == "__main__":
    unittest.main()
