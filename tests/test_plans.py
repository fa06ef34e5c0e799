"""[6] plans, and what [9] says of least plans, join and meet."""

import itertools
import unittest

from helpers import FREE, all_texts, bears, raised, random_plan, seeded
from tailheard.errors import BadMost, BadPlan, BadSample, Empty, NoStanding, TooMany
from tailheard.plans import Plan, least_plan


def ring(many, sign="a", ends=(0,)):
    """A plan that goes round."""
    return Plan([[(sign, (at + 1) % many)] for at in range(many)], ends)


def fewest(plan, texts):
    """The number of unlike states that strings lead to, by the strings that lead on from them to an end."""
    found = set()
    for text in texts:
        rest = frozenset(more for more in texts if bears(plan, text + more))
        if rest:
            found.add(rest)
    return len(found)


class JudgeTest(unittest.TestCase):
    def wrong(self, *things):
        return raised(BadPlan, Plan, *things).number

    def test_whole(self):
        for states in ((), [], None, 0, True, "ab", {0: ()}, [()] * 61):
            self.assertEqual(self.wrong(states), -1)
        self.assertEqual(len(Plan([()] * 60)), 60)

    def test_ends(self):
        states = [[("a", 1)], []]
        for ends in ((), [], (2,), (0, 2), (-1,), (-1, 0), (0, 0), (1, 0), (True,), (0, True), (None,), ("0",), 0,
                     "01", True, {0: 0}, (0, 1, 2)):
            self.assertEqual(self.wrong(states, ends), -1, ends)
            self.assertEqual(self.wrong([None], ends), -1, ends)
        self.assertEqual(Plan(states, [1]).ends, (1,))
        self.assertEqual(Plan(states).ends, (0, 1))
        self.assertEqual(Plan(states, None).ends, (0, 1))
        self.assertEqual(Plan([()] * 60).ends, tuple(range(60)))

    def test_states(self):
        bad = [None, 0, "a", True, [None], [("a",)], [("a", 0, 0)], [("a", 2)], [("a", -1)], [("a", True)],
               [("a", None)], [("", 0)], [("ab", 0)], [("1", 0)], [(None, 0)], [(0, 0)], [(["a"], 0)],
               [("b", 0), ("a", 0)], [("a", 0), ("a", 1)], [("a", 0), (".", 0)], [("a", 0), ("B", 0)], ["a0"]]
        for row in bad:
            self.assertEqual(self.wrong([[], row]), 1, row)
            self.assertEqual(self.wrong([row, row]), 0, row)
        Plan([[(".", 0), ("A", 1), ("Z", 0), ("a", 1), ("z", 0)], []])

    def test_ends_within_reach(self):
        self.assertEqual(self.wrong([[("a", 1)], [("a", 1)]], [0]), 1)
        self.assertEqual(self.wrong([[("a", 1)], [("a", 0)], []], [2]), 0)
        self.assertEqual(self.wrong([[], [], [("a", 2)]], [0]), 1)
        # The form of every state goes ahead of what any state leads to.
        self.assertEqual(self.wrong([[("a", 0)], None], [1]), 1)
        # States that nothing leads to are states, too.
        self.assertEqual(len(Plan([[], [("a", 0)]], [0])), 2)

    def test_lists_are_kept_as_tuples(self):
        states = [[["a", 1]], []]
        ends = [1]
        plan = Plan(states, ends)
        states[0][0][1] = 0
        states.append([])
        ends.append(7)
        self.assertEqual(plan.states, ((("a", 1),), ()))
        self.assertEqual(plan.ends, (1,))
        self.assertEqual(list(plan), [(("a", 1),), ()])


class PlanTest(unittest.TestCase):
    def test_what_is_borne(self):
        plan = Plan([[("a", 1)], [(".", 0), ("b", 2)], []], [0, 2])
        for text in ("", "a.", "ab", "a.ab", "a.a."):
            self.assertIs(text in plan, True, text)
        for text in ("a", "b", ".", "aba", "a.a", "ba", "aab", "A", "?", None, 0, True, ["a", "."], ("a", "b"), b""):
            self.assertIs(text in plan, False, text)
        self.assertIs("" in Plan([[("a", 1)], []], [1]), False)

    def test_signs_of_states(self):
        plan = Plan([[("a", 1)], [(".", 0)]])
        self.assertEqual(plan(0, "a"), 1)
        self.assertEqual(plan(1, "."), 0)
        self.assertIsNone(plan(0, "."))
        self.assertIsNone(plan(1, "aa"))
        self.assertIsNone(plan(1, ""))
        for state in (-1, 2, True, False, None, "0", [0]):
            self.assertIs(raised(NoStanding, plan, state, "a").standing, state)

    def test_equality(self):
        self.assertEqual(ring(3), Plan([[("a", 1)], [("a", 2)], [("a", 0)]], [0]))
        self.assertNotEqual(ring(3), ring(3, ends=(1,)))
        self.assertNotEqual(ring(3), ring(3, sign="b"))
        self.assertNotEqual(Plan([[]]), Plan([[], []]))
        self.assertFalse(ring(3) == ring(3).states)

    def test_least_text(self):
        self.assertEqual(FREE.least_text, "")
        self.assertEqual(Plan([[("a", 1), ("b", 2)], [("a", 2)], []], [2]).least_text, "b")
        self.assertEqual(Plan([[("b", 1), ("c", 2)], [("z", 3)], [("a", 3)], []], [3]).least_text, "bz")
        self.assertEqual(ring(60, ends=(59,)).least_text, "a" * 59)
        rng = seeded(1)
        for _ in range(100):
            plan = random_plan(rng, "ab")
            self.assertEqual(plan.least_text, next(text for text in all_texts("ab", 9) if bears(plan, text)))


class StringsTest(unittest.TestCase):
    def test_all_in_order(self):
        self.assertEqual(list(FREE.strings(0)), [""])
        self.assertEqual(list(FREE.strings(1)), ["", ".", "a", "b"])
        self.assertEqual(list(FREE.strings(4)), list(all_texts(".ab", 4)))
        mixed = Plan([[(".", 0), ("B", 0), ("a", 0)]])
        self.assertEqual(list(mixed.strings(2)), ["", ".", "B", "a", "..", ".B", ".a", "B.", "BB", "Ba", "a.", "aB",
                                                  "aa"])
        rng = seeded(2)
        for _ in range(100):
            plan = random_plan(rng, "ab")
            self.assertEqual(list(plan.strings(6)), [text for text in all_texts("ab", 6) if bears(plan, text)])

    def test_one_by_one(self):
        self.assertEqual(list(itertools.islice(FREE.strings(60), 5)), ["", ".", "a", "b", ".."])
        wide = Plan([[(sign, 0) for sign in ".ABCDEFGHIJKLMNOPQRSTUVWXYZabcdefghijklmnopqrstuvwxyz"]])
        self.assertEqual(len(list(itertools.islice(wide.strings(60), 1000))), 1000)
        self.assertEqual(list(ring(60).strings(60)), ["", "a" * 60])
        self.assertEqual(list(ring(60, ends=(59,)).strings(58)), [])

    def test_most(self):
        for most in (-1, 61, True, False, None, "1", [1]):
            told = FREE.strings(most)
            self.assertIs(raised(BadMost, next, told).most, most)
        self.assertEqual(list(Plan([[]]).strings(60)), [""])


class LeastPlanTest(unittest.TestCase):
    def test_states_are_put_together(self):
        plan = Plan([[("a", 2), ("b", 1)], [("c", 3)], [("c", 4)], [], [], [("a", 0)]], [3, 4])
        self.assertEqual(least_plan(plan), Plan([[("a", 1), ("b", 1)], [("c", 2)], []], [2]))
        self.assertEqual(least_plan(ring(60, ends=tuple(range(60)))), Plan([[("a", 0)]]))
        self.assertEqual(least_plan(ring(60)), ring(60))

    def test_order_of_states(self):
        plan = Plan([[("a", 3), ("b", 1)], [("a", 2)], [], [("a", 2), ("b", 2)]], [2])
        self.assertEqual(least_plan(plan), Plan([[("a", 1), ("b", 2)], [("a", 3), ("b", 3)], [("a", 3)], []], [3]))

    def test_against_all_strings(self):
        rng = seeded(3)
        texts = list(all_texts("ab", 5))
        for _ in range(150):
            plan = random_plan(rng, "ab", most=5)
            least = least_plan(plan)
            for text in texts:
                self.assertEqual(bears(least, text), bears(plan, text))
            self.assertEqual(len(least), fewest(plan, texts))
            firsts = [next(text for text in texts if state_of(least, text) == at) for at in range(len(least))]
            self.assertEqual(firsts, sorted(firsts, key=lambda text: (len(text), text)))


def state_of(plan, text):
    state = 0
    for sign in text:
        state = None if state is None else plan(state, sign)
    return state


class JoinAndMeetTest(unittest.TestCase):
    def test_against_all_strings(self):
        rng = seeded(4)
        texts = list(all_texts("ab", 6))
        empty = 0
        for _ in range(200):
            one, two = random_plan(rng, "ab", 3), random_plan(rng, "ab", 3)
            join = one | two
            self.assertEqual([bears(join, text) for text in texts],
                             [bears(one, text) or bears(two, text) for text in texts])
            self.assertEqual(least_plan(join), join)
            both = [text for text in all_texts("ab", 8) if bears(one, text) and bears(two, text)]
            if both:
                meet = one & two
                self.assertEqual([text for text in all_texts("ab", 8) if bears(meet, text)], both)
                self.assertEqual(least_plan(meet), meet)
            else:
                empty += 1
                raised(Empty, lambda: one & two)
        self.assertGreater(empty, 10)

    def test_other_signs(self):
        self.assertEqual(Plan([[("a", 0)]]) | Plan([[("b", 0)]]),
                         Plan([[("a", 1), ("b", 2)], [("a", 1)], [("b", 2)]]))
        self.assertEqual(Plan([[("a", 0)]]) & Plan([[("b", 0)]]), Plan([[]]))

    def test_sixty_states(self):
        # Round 3 and round 20 join to a round of 60; round 7 and round 9 to one of 63.
        self.assertEqual(len(ring(3) | ring(20)), 60)
        self.assertEqual(ring(3) & ring(20), ring(60))
        self.assertEqual(raised(TooMany, lambda: ring(7) | ring(9)).word, "state")
        self.assertEqual(raised(TooMany, lambda: ring(7) & ring(9)).word, "state")
        self.assertEqual(raised(TooMany, lambda: ring(59) | ring(60)).word, "state")
        self.assertEqual(len(ring(60) | ring(30)), 30)
        # Many pairs of states, of which nothing is left: no TooMany.
        one = Plan([[("a", (at + 1) % 59), ("b", 59)] for at in range(59)] + [[]], [59])
        two = Plan([[("a", (at + 1) % 59), ("c", 59)] for at in range(59)] + [[]], [59])
        raised(Empty, lambda: one & two)

    def test_other_things(self):
        self.assertRaises(TypeError, lambda: ring(3) | "a")
        self.assertRaises(TypeError, lambda: ring(3) & None)

    def test_nothing_changes(self):
        one, two = ring(3), ring(20)
        raised(TooMany, lambda: ring(7) | ring(9))
        self.assertEqual((one | two, one, two), (two | one, ring(3), ring(20)))


class BearingTest(unittest.TestCase):
    def test_just_these(self):
        plan = Plan.bearing(["ab", "", "cb", "ab"])
        self.assertEqual(plan, Plan([[("a", 1), ("c", 1)], [("b", 2)], []], [0, 2]))
        self.assertEqual(list(plan.strings(60)), ["", "ab", "cb"])
        self.assertEqual(Plan.bearing([""]), Plan([[]]))
        self.assertEqual(list(Plan.bearing((".Zz",)).strings(9)), [".Zz"])

    def test_bad_samples(self):
        for strings in ((), [], None, 0, "ab", True, ("",) * 21):
            self.assertEqual(raised(BadSample, Plan.bearing, strings).number, -1)
        for bad in (None, 0, True, ["a"], ("a",), "a b", "a1", "?", "a" * 31):
            self.assertEqual(raised(BadSample, Plan.bearing, ("a", bad, bad)).number, 1)
        self.assertEqual(len(Plan.bearing(["a" * 30])), 31)
        self.assertEqual(len(Plan.bearing(("",) * 20)), 1)

    def test_too_many_states(self):
        self.assertEqual(len(Plan.bearing(["a" * 30, "b" * 30])), 60)
        self.assertEqual(raised(TooMany, Plan.bearing, ["a" * 30, "b" * 30, "c" * 30]).word, "state")


if __name__ == "__main__":
    unittest.main()
