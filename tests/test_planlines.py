"""[52], of the lines of a plan."""

import unittest

from helpers import FREE, raised, random_plan, seeded
from tailheard.errors import BadLine, BadPlan
from tailheard.planlines import read_plan_lines, write_plan
from tailheard.plans import Plan

PLAN = Plan([[(".", 0), ("Z", 1), ("a", 2)], [("b", 0)], []], [0, 2])
LINES = ("state . 0 Z 1 a 2", "state b 0", "state")


class WriteTest(unittest.TestCase):
    def test_lines(self):
        self.assertEqual(write_plan(PLAN), LINES)
        self.assertEqual(write_plan(Plan([[]])), ("state",))
        self.assertEqual(write_plan(FREE), ("state . 0 a 0 b 0",))

    def test_written_and_read_back(self):
        rng = seeded(14)
        for _ in range(50):
            plan = random_plan(rng, ".ABab", most=6)
            lines = write_plan(plan)
            self.assertIsInstance(lines, tuple)
            self.assertEqual(read_plan_lines(plan.ends, lines), plan)
            self.assertEqual(read_plan_lines(list(plan.ends), list(lines)), plan)


class ReadTest(unittest.TestCase):
    def wrong(self, *lines):
        error = raised(BadLine, read_plan_lines, None, lines)
        return error.line, error.word

    def test_whole(self):
        self.assertEqual(read_plan_lines((0, 2), LINES), PLAN)
        self.assertEqual(read_plan_lines(None, LINES).ends, (0, 1, 2))

    def test_first_words(self):
        for line in ("", " state", "states", "State", "end", "kind A 1", ". 0", None, 0, True, ["state"], b"state"):
            self.assertEqual(self.wrong("state", line), (1, 0), line)

    def test_pairs(self):
        for line, word in (("state ", 1), ("state a", 2), ("state a ", 2), ("state a 0 ", 3), ("state a 0 b", 4),
                           ("state a 60", 2), ("state a -1", 2), ("state a 00", 2), ("state a +1", 2),
                           ("state ab 0", 1), ("state 0 a", 1), ("state 1 0", 1), ("state  a 0", 1),
                           ("state a  0", 2), ("state a 0 a 1", 3), ("state b 0 a 1", 3), ("state a 0 . 1", 3),
                           ("state a 0 Z 1", 3), ("state z 0 z", 3), ("state a 0 b 60 b 0", 4), ("state _ 0", 1),
                           ("state a x", 2), ("state a 0 b 1 ", 5)):
            self.assertEqual(self.wrong("state", "state", line), (2, word), line)

    def test_errors_of_the_plan_go_behind_all_lines(self):
        self.assertEqual(raised(BadPlan, read_plan_lines, None, ()).number, -1)
        self.assertEqual(raised(BadPlan, read_plan_lines, (3,), LINES).number, -1)
        self.assertEqual(raised(BadPlan, read_plan_lines, (0, 0), LINES).number, -1)
        self.assertEqual(raised(BadPlan, read_plan_lines, None, ("state", "state a 59")).number, 1)
        self.assertEqual(raised(BadPlan, read_plan_lines, (0,), LINES).number, 2)
        self.assertEqual(raised(BadPlan, read_plan_lines, None, ("state",) * 61).number, -1)
        self.assertEqual(len(read_plan_lines(None, ("state a 59",) * 60)), 60)
        error = raised(BadLine, read_plan_lines, (9,), (*LINES, "state a 59 a"))
        self.assertEqual((error.line, error.word), (3, 3))


if __name__ == "__main__":
    unittest.main()
