"""[30] values, the calling of a program, the plan of a program, spots and lots."""

import itertools
import unittest

from helpers import raised, seeded
from tailheard.callings import calling_of, plan_of
from tailheard.errors import BadDelay, BadValue, TooLong, TooMany, Unknown
from tailheard.plans import Plan, least_plan
from tailheard.plantext import read_plan
from tailheard.programs import Program


def program(*script, words="abc"):
    return Program(words, script)


def plain_calling(body, values, delay):
    """The signs of a body, written out."""
    text = ""
    for row in body:
        if row[0] == "say":
            text += row[1]
        elif row[0] == "answer":
            text += ".." * delay
        else:
            many = row[1] if isinstance(row[1], int) else values[row[1]]
            text += (plain_calling(row[2], values, delay) if row[0] == "repeat" else ".") * many
    return text


def callings_with(body, most):
    """All strings of at most so many signs that a body can call, each answer by itself."""
    found = {""}
    for row in body:
        if row[0] == "say":
            parts = {row[1]}
        elif row[0] == "answer" or row[0] == "wait" and isinstance(row[1], str):
            parts = {"." * many for many in range(most + 1)}
        elif row[0] == "wait":
            parts = {"." * row[1]}
        else:
            once = callings_with(row[2], most)
            parts, layer = {""}, {""}
            numbers = range(most + 1) if isinstance(row[1], str) else range(row[1])
            for _ in numbers:
                layer = {one + two for one in layer for two in once if len(one + two) <= most}
                parts = parts | layer if isinstance(row[1], str) else layer
            if row[1] == 0:
                parts = {""}
        found = {one + two for one in found for two in parts if len(one + two) <= most}
    return found


class CallingTest(unittest.TestCase):
    def test_signs(self):
        told = program(("say", "a"), ("repeat", "x", (("wait", 2), ("say", "b"))), ("answer",), ("wait", "y"))
        self.assertEqual(calling_of(told, {"x": 2, "y": 3}, 2), "a..b..b......." )
        self.assertEqual(calling_of(told, {"y": 0, "x": 0}), "a")
        self.assertEqual(calling_of(program(), {}), "")
        self.assertEqual(calling_of(program(("answer",), ("say", "c"), ("answer",)), {}, 1), "..c..")

    def test_repeats_within_one_another(self):
        told = program(("repeat", 2, (("say", "a"), ("repeat", "x", (("say", "b"), ("wait", "y"))))))
        self.assertEqual(calling_of(told, {"x": 2, "y": 1}), "ab.b.ab.b.")
        self.assertEqual(calling_of(program(("repeat", 0, (("say", "a"),))), {}), "")

    def test_against_plain_lookers(self):
        rng = seeded(230)
        for _ in range(60):
            inner = [("say", rng.choice("abc")), ("wait", rng.choice([0, 2, "x"])), ("answer",)]
            rng.shuffle(inner)
            told = program(("repeat", rng.choice([0, 1, 3, "y"]), inner), ("say", "a"), ("wait", rng.choice([1, "z"])))
            values = {name: rng.randint(0, 5) for name in told.variables}
            delay = rng.randint(0, 4)
            self.assertEqual(calling_of(told, values, delay), plain_calling(told.script, values, delay))

    def test_values(self):
        told = program(("wait", "y"), ("repeat", "x", ()))
        for worth in (-1, 100, True, False, None, "1", 1.0, (1,)):
            self.assertEqual(raised(BadValue, calling_of, told, {"y": worth, "x": worth, "z": 1}, -1).name, "y")
            self.assertEqual(raised(BadValue, calling_of, told, {"x": worth, "y": 1, "z": 1}, -1).name, "x")
        self.assertEqual(raised(BadValue, calling_of, told, {}).name, "y")
        self.assertEqual(raised(BadValue, calling_of, told, {"y": 0}).name, "x")
        self.assertEqual(len(calling_of(told, {"y": 99, "x": 99})), 99)
        for key in ("z", "Y", "", 1, None, ("x",), "yx"):
            self.assertEqual(raised(Unknown, calling_of, told, {"x": 1, key: 1, "q": 1, "y": 1}, -1).name, key)
        self.assertEqual(raised(Unknown, calling_of, program(), {"x": 1}, -1).name, "x")

    def test_delays(self):
        told = program(("answer",), ("wait", 46))
        self.assertEqual(len(calling_of(told, {}, 177)), 400)
        for delay in (-1, 178, True, None, "1", 1.0):
            self.assertIs(raised(BadDelay, calling_of, told, {}, delay).delay, delay)
        self.assertEqual(raised(BadDelay, calling_of, program(("repeat", 99, (("wait", 99),))), {}, 178).delay, 178)

    def test_four_hundred_signs(self):
        self.assertEqual(calling_of(program(("repeat", 5, (("wait", 80),))), {}), "." * 400)
        self.assertEqual(raised(TooLong, calling_of, program(("repeat", 5, (("wait", 80),)), ("say", "a")), {}).number,
                         401)
        body = (("wait", 99), ("answer",))
        for _ in range(4):
            body = (("repeat", 99, body),)
        self.assertEqual(raised(TooLong, calling_of, program(*body), {}, 177).number, 99 ** 4 * (99 + 354))

    def test_far_too_much_no_times(self):
        body = (("wait", 99),)
        for _ in range(4):
            body = (("repeat", 99, body),)
        self.assertEqual(calling_of(program(("say", "a"), ("repeat", 0, body[0][2])), {}), "a")
        self.assertEqual(calling_of(program(("repeat", "x", body[0][2]), ("say", "b")), {"x": 0}), "b")
        # Nothing, very often.
        body = ()
        for _ in range(5):
            body = (("repeat", 99, body),)
        self.assertEqual(calling_of(program(*body), {}), "")


class PlanTest(unittest.TestCase):
    def test_plans(self):
        self.assertEqual(plan_of(program(("say", "a"), ("wait", 2), ("say", "b"))), read_plan("a..b"))
        self.assertEqual(plan_of(program(("say", "a"), ("wait", "x"), ("say", "b"))), read_plan("a.*b"))
        self.assertEqual(plan_of(program(("answer",), ("say", "b"), ("answer",))), read_plan(".*b.*"))
        self.assertEqual(plan_of(program(("repeat", 3, (("say", "a"), ("wait", "x"))))), read_plan("(a.*)3"))
        self.assertEqual(plan_of(program(("repeat", "x", (("say", "a"), ("wait", 1))))), read_plan("(a.)*"))
        self.assertEqual(plan_of(program()), Plan([[]]))
        self.assertEqual(plan_of(program(("repeat", 0, (("say", "a"),)), ("wait", 0), ("say", "b"))), read_plan("b"))
        self.assertEqual(plan_of(program(("repeat", "x", ()), ("repeat", "y", (("repeat", 0, (("say", "a"),)),)))),
                         Plan([[]]))

    def test_against_plain_lookers(self):
        rng = seeded(231)
        for _ in range(60):
            names = ["x", "y", "z"]

            def amount():
                return names.pop() if names and rng.random() < 0.5 else rng.randint(0, 3)

            def body(depth):
                rows = []
                for _ in range(rng.randint(0, 3)):
                    kind = rng.choice(["say", "say", "wait", "answer", "repeat"])
                    if kind == "say":
                        rows.append(("say", rng.choice("ab")))
                    elif kind == "repeat" and depth < 2:
                        rows.append(("repeat", amount(), body(depth + 1)))
                    else:
                        rows.append(("answer",) if kind == "answer" else ("wait", amount()))
                return tuple(rows)

            told = program(*body(0))
            plan = plan_of(told)
            self.assertEqual(plan, least_plan(plan))
            self.assertEqual(set(plan.strings(5)), callings_with(told.script, 5))
            for values in itertools.product((0, 2), repeat=len(told.variables)):
                text = calling_of(told, dict(zip(told.variables, values)), 1)
                self.assertIn(text, plan)

    def test_two_hundred_spots(self):
        rows = (("wait", 98), ("repeat", 3, (("answer",), ("wait", "x"), ("wait", 31))), ("repeat", "y", (("say", "a"),)),
                ("answer",), ("say", "b"))
        self.assertEqual(raised(TooMany, plan_of, program(*rows)).word, "state")
        self.assertEqual(raised(TooLong, plan_of, program(("say", "a"), *rows)).number, 201)
        self.assertEqual(raised(TooLong, plan_of, program(*rows, ("wait", 2), ("answer",))).number, 203)

    def test_great_numbers_of_spots(self):
        body = (("wait", 99),)
        for _ in range(4):
            body = (("repeat", 99, body),)
        told = program(("say", "a"), *body)
        self.assertEqual(raised(TooLong, plan_of, told).number, 99 ** 5 + 1)
        self.assertEqual(plan_of(program(("repeat", 0, body[0][2]), ("say", "a"))), read_plan("a"))
        body = ()
        for _ in range(5):
            body = (("repeat", 99, body),)
        self.assertEqual(plan_of(program(*body, ("say", "a"))), read_plan("a"))

    def test_sixty_lots(self):
        self.assertEqual(len(plan_of(program(("wait", 59)))), 60)
        self.assertEqual(raised(TooMany, plan_of, program(("wait", 60))).word, "state")
        # 200 spots, but few lots: any number of words, told again and again.
        self.assertEqual(len(plan_of(program(("repeat", 50, (("answer",),)), ("repeat", "x", (("say", "a"),))))), 2)
        many = program(("repeat", 50, (("repeat", "x", (("say", "a"),)), ("answer",), ("wait", "y"), ("wait", "z"))))
        self.assertEqual(raised(TooMany, plan_of, many).word, "state")


if __name__ == "__main__":
    unittest.main()
