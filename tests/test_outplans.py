"""[42] what comes out of a chain, the out plan, lots."""

import unittest

from helpers import all_texts, hears, plain_obstacle, plain_steps, raised, random_obstacle, random_plan, seeded
from tailheard.chains import Chain
from tailheard.errors import BadSign, TooMany
from tailheard.obstacles import Obstacle
from tailheard.outplans import out_plan
from tailheard.plans import Plan, least_plan
from tailheard.plantext import read_plan

# For numbers of lots, chains and plans that have just so many; with 60 and 61 states of the out plan.
LOTS = {
    100: ([("ABC", [((0, 1), (1, 1), (0, 1)), ((1, 0), (1, 1), (0, 0))], (2, 3), 0),
           ("ABC", [((1, 0), (1, 0), (0, 0))], (1, 3), 0)], ([[("A", 0), ("B", 0), ("C", 0)]],)),
    101: ([("ABC", [((1, 1), (1, 2), (1, 1)), ((1, 2), (0, 2), (0, 2)), ((0, 2), (0, 0), (0, 0))], (3, 1), 1)],
          ([[("B", 1), ("C", 0)], [(".", 1), ("A", 1), ("B", 0)]],)),
}
STATES = {
    60: ([("ABC", [((1, 1), (1, 0), (1, 0)), ((1, 1), (0, 1), (0, 0))], (1, 4), 1)],
         ([[("B", 1), ("C", 0)], [(".", 1), ("A", 1), ("B", 0)]],)),
    61: ([("ABC", [((1, 1), (1, 0), (0, 1)), ((1, 0), (0, 1), (0, 1))], (1, 3), 0),
          ("ABC", [((0, 1), (1, 1), (0, 0)), ((0, 1), (0, 0), (0, 1))], (2, 4), 1)],
         ([[("A", 0), ("B", 0)], [("C", 0)]], [0])),
}


def sized(rows):
    obstacles, plan = rows
    return Chain([Obstacle(*each) for each in obstacles]), Plan(*plan)


def lots_of(chain, plan):
    """The number of lots, found with sets of all tuples of a hearing state and the insides."""
    def onward(lot):
        found = {}
        for state, insides in lot:
            for sign, onto in plain_steps(plan, state):
                further = []
                for obstacle, inside in zip(chain, insides):
                    inside, sign = obstacle.beat(inside, sign)
                    further.append(inside)
                found.setdefault(sign, set()).add((onto, tuple(further)))
        return [frozenset(each) for each in found.values()]

    first = frozenset([(0, tuple(each.beginning for each in chain))])
    seen, queue = {first}, [first]
    for lot in queue:
        for each in onward(lot):
            if each not in seen:
                seen.add(each)
                queue.append(each)
    return len(seen)


def out_texts(chain, plan, most):
    """What comes out of all streams with at most so many signs."""
    found = set()
    for text in all_texts("." + chain.obstacles[0].names, most):
        if hears(plan, text):
            for obstacle in chain:
                text = plain_obstacle(obstacle, text)
            found.add(text)
    return found


class OutPlanTest(unittest.TestCase):
    def test_one_obstacle(self):
        told = out_plan(Chain([Obstacle.plain("AB", "B", (1, 3))]), read_plan("BA"))
        self.assertEqual(told, Plan([[(".", 1)], [(".", 2)], [("A", 3)], [("B", 4)], [(".", 4)]]))
        self.assertEqual(out_plan(Chain([Obstacle("A", [[(0, 0)]], (1, 1))]), Plan([[]])), Plan([[(".", 0)]]))

    def test_three_obstacles(self):
        one = Obstacle.plain("AB", "B", (1, 2))
        told = out_plan(Chain([one] * 3), read_plan("(A|.)*"))
        # Each obstacle takes a beat, and nothing but A goes round it.
        self.assertEqual(told, least_plan(Plan([[(".", 1)], [(".", 2)], [(".", 3)], [(".", 3), ("A", 3)]])))
        self.assertEqual(len(out_plan(Chain([one] * 3), read_plan("(A|B|.)*"))), 24)

    def test_against_a_plain_looker(self):
        rng = seeded(471)
        for _ in range(60):
            names = rng.choice(["A", "AB"])
            chain = Chain([random_obstacle(rng, names, most=2) for _ in range(rng.randint(1, 3))])
            plan = random_plan(rng, "." + names, most=3, share=0.6)
            try:
                told = out_plan(chain, plan)
            except TooMany as error:
                self.assertTrue(error.word == "state" or lots_of(chain, plan) > 100)
                continue
            self.assertEqual(told, least_plan(told))
            self.assertEqual(told.ends, tuple(range(len(told))))
            self.assertLessEqual(lots_of(chain, plan), 100)
            self.assertEqual({text for text in all_texts("." + names, 6) if text in told},
                             out_texts(chain, plan, 6))

    def test_plans_that_end(self):
        # Each stream ends, but silences can follow for ever, so what is inside comes out.
        told = out_plan(Chain([Obstacle.plain("A", "A", (1, 4))]), read_plan("AA"))
        for text in ("", "....", "....A", "....AA", "....AA...."):
            self.assertIn(text, told)
        for text in ("A", "...A", "....A.", "....AAA"):
            self.assertNotIn(text, told)
        endless = out_plan(Chain([Obstacle.plain("A", "A", (1, 4))]), Plan([[("A", 0)]]))
        self.assertIn("....AAAAAA.", endless)

    def test_signs(self):
        chain = Chain([Obstacle.plain("AB", "B", (1, 2))])
        self.assertEqual(raised(BadSign, out_plan, chain, Plan([[("A", 0), ("C", 0), ("b", 0)]])).sign, "C")

    def test_too_many_lots(self):
        self.assertEqual(lots_of(*sized(LOTS[100])), 100)
        self.assertEqual(lots_of(*sized(LOTS[101])), 101)
        self.assertEqual(raised(TooMany, out_plan, *sized(LOTS[101])).word, "lot")
        # With one lot less the next error is due.
        self.assertEqual(raised(TooMany, out_plan, *sized(LOTS[100])).word, "state")

    def test_too_many_states(self):
        self.assertEqual(len(out_plan(*sized(STATES[60]))), 60)
        self.assertLessEqual(lots_of(*sized(STATES[61])), 100)
        self.assertEqual(raised(TooMany, out_plan, *sized(STATES[61])).word, "state")


if __name__ == "__main__":
    unittest.main()
