"""[31] kinds of values, lag and period of a variable, outcomes, kept for all values, the least values."""

import itertools
import unittest

from helpers import WALK, Looker, plain_outcome, raised, random_standings, seeded, two_kinds, walkers
from tailheard.allvalues import AllValues, value_kinds
from tailheard.errors import BadValue, BadWish, HasAnswer, TooMany, Unknown, Unlike
from tailheard.makes import Make
from tailheard.programs import Program


def program(*script, words="ab"):
    return Program(words, script)


# Any number of times: walk for some beats, and halt.
MARCH = program(("repeat", "x", (("say", "a"), ("wait", "y"), ("say", "b"))))
SET_OFF = ((0, 1, (0, 1)), (1, 1, (1, 1)))
# Each `a` turns by one of four standings; all but rest walk.
FOUR = tuple((int(at > 0), 1, (at, (at + 1) % 4)) for at in range(4))


def written(body, values):
    text = ""
    for row in body:
        many = 1 if row[0] == "say" else values.get(row[1], row[1])
        text += row[1] if row[0] == "say" else ("." if row[0] == "wait" else written(row[2], values)) * many
    return text


class KindsTest(unittest.TestCase):
    def test_a_march(self):
        self.assertEqual(value_kinds(walkers(), "A", "A", MARCH, (0, 9)), (("x", 1, 1), ("y", 10, 1)))
        self.assertEqual(value_kinds(walkers(), "A", "A", MARCH, [1, 2]), (("x", 1, 1), ("y", 2, 1)))
        self.assertEqual(value_kinds(walkers(), "A", "A", program(("say", "a")), (0, 9)), ())

    def test_lag_zero_and_period_one(self):
        told = program(("repeat", "x", ()), ("repeat", "y", (("repeat", 0, (("say", "a"),)), ("wait", 0))))
        self.assertEqual(value_kinds(walkers(), "A", "A", told, (0, 9)), (("x", 0, 1), ("y", 0, 1)))

    def test_periods(self):
        make = Make("a", [("A", 1, FOUR)], 0)
        turn = program(("repeat", "x", (("say", "a"),)), ("wait", "y"), words="a")
        self.assertEqual(value_kinds(make, "A", "A", turn, (0, 41)), (("x", 3, 4), ("y", 42, 1)))

    def test_values_within_a_body(self):
        # Silence turns by three standings; a pass that waits turns too, one that does not wait leaves all as it is.
        turn = ((0, 1, (0, 1)), (0, 1, (2, 1)), (0, 1, (3, 2)), (0, 1, (1, 3)))
        make = Make("a", [("A", 1, turn)], 0)
        looker = Looker(make, "A", "A", (0, 2))
        for many in (1, 2, 3):
            told = value_kinds(make, "A", "A", program(("repeat", "x", (("repeat", many, (("wait", "y"),)), ("say", "a"))),
                                                       words="a"), (0, 2))
            texts = ["." * (many * value) + "a" for value in range(9)]
            self.assertEqual(told, (("x", *looker.kinds(texts)), ("y", *looker.kinds(["."]))))
            self.assertEqual(told[0][2], 1 if many == 3 else 3)
        both = program(("repeat", "x", (("wait", "y"), ("say", "a"), ("repeat", "z", (("say", "a"), ("wait", 1))))),
                       words="a")
        texts = ["." * one + "a" + "a." * two for one in range(8) for two in range(8)]
        self.assertEqual(value_kinds(make, "A", "A", both, (0, 2))[0][1:], looker.kinds(texts))

    def test_many_values_within_a_body(self):
        # Silence that moves by one pace in five beats: 305 kinds of each inner value, gone through quickly.
        slow = tuple((int(at == 1), 1, (at and at % 5 + 1, 1)) for at in range(6))
        make = Make("a", [("A", 1, slow), ("B", 1, ((0, 1, (0, 0)), (0, 1, (1, 1))))], 5)
        told = value_kinds(make, "A", "B", program(("repeat", "x", (("say", "a"), ("wait", "y"), ("say", "a"),
                                                                    ("wait", "z"))), words="a"), (0, 60))
        self.assertEqual(told, (("x", 31, 1), ("y", 305, 1), ("z", 305, 1)))

    def test_against_plain_lookers(self):
        rng = seeded(240)
        kinds = set()
        for _ in range(25):
            make = Make("ab", [(name, 1, random_standings(rng, 3, most=3, steady=rng.random() < 0.5))
                               for name in "AB"], 2)
            ahead, behind = rng.choice("AB"), rng.choice("AB")
            low = rng.randint(0, 2)
            wish = (low, low + rng.randint(0, 4))
            inner = [("say", rng.choice("ab")), rng.choice([("wait", 2), ("say", "a")])]
            both = program(("repeat", "x", [*inner, ("wait", "y"), ("say", "b")]), ("repeat", "z", inner))
            told = value_kinds(make, ahead, behind, both, wish)
            self.assertEqual([row[0] for row in told], ["x", "y", "z"])
            looker = Looker(make, ahead, behind, wish)
            self.assertEqual(told[1][1:], looker.kinds(["."]))
            self.assertEqual(told[2][1:], looker.kinds([written(inner, {})]))
            many = sum(told[1][1:])
            texts = [written(both.script[0][2], {"y": value}) for value in range(many)]
            self.assertEqual(told[0][1:], looker.kinds(texts))
            kinds.update((row[1] > 1, row[2] > 1) for row in told)
        self.assertGreaterEqual(len(kinds), 3)


class AllValuesTest(unittest.TestCase):
    def test_kept(self):
        told = AllValues(walkers(), "A", "A", MARCH, (1, 2))
        self.assertIs(bool(told), True)
        self.assertIsNone(told.least_values)
        rest, behind = (0, 0, ".", 1), (0, 1, "b", 1)
        self.assertEqual(told.table, (((0, 0), rest), ((0, 1), rest), ((0, 2), rest),
                                      ((1, 0), behind), ((1, 1), behind), ((1, 2), behind)))
        self.assertEqual((len(told), list(told)), (6, list(told.table)))

    def test_broken(self):
        told = AllValues(walkers(), "A", "A", MARCH, (1, 1))
        self.assertIs(bool(told), False)
        self.assertEqual(told.least_values, (1, 0))
        self.assertEqual([row for row in told if row[1] is not None],
                         [((0, value), (0, 0, ".", 1)) for value in range(2)])
        self.assertEqual(told.table[0], ((0, 0), (0, 0, ".", 1)))

    def test_a_seat_that_breaks_the_wish(self):
        told = AllValues(walkers(), "A", "A", MARCH, (2, 3))
        self.assertEqual((bool(told), told.least_values), (False, (0, 0)))
        self.assertEqual(len(told), 2 * 3)
        self.assertEqual({row[1] for row in told}, {None})
        self.assertIsNone(told.outcome({"x": 0, "y": 5}))

    def test_without_variables(self):
        told = AllValues(walkers(), "A", "A", program(("say", "a"), ("say", "b")), (1, 2))
        self.assertEqual((bool(told), told.table, told.least_values), (True, (((), (0, 1, "b", 1)),), None))
        broken = AllValues(walkers(), "A", "A", program(("say", "a")), (1, 1))
        self.assertEqual((bool(broken), broken.table, broken.least_values), (False, (((), None),), ()))
        self.assertEqual(told.outcome({}), (0, 1, "b", 1))

    def test_silence_behind_the_calling(self):
        # All beats of the calling keep the wish; the gap grows when the one behind has not set off in time.
        make = Make("ab", [("A", 3, WALK)], 1)
        self.assertEqual(AllValues(make, "A", "A", program(("say", "a")), (1, 4)).outcome({}), (1, 0, "..a", 2))
        self.assertIsNone(AllValues(make, "A", "A", program(("say", "a")), (1, 3)).outcome({}))
        two = Make("ab", [("A", 1, WALK), ("B", 1, ((0, 1, (0, 0, 0)),))], 1)
        self.assertIsNone(AllValues(two, "A", "B", program(("say", "a")), (0, 60)).outcome({}))
        self.assertEqual(AllValues(two, "A", "B", program(("wait", "x"), ("say", "a"), ("wait", 2), ("say", "b")),
                                   (0, 4)).outcome({"x": 0}), (0, 0, "b", 4))

    def test_the_least_values(self):
        # The least sum, then the first as a tuple.
        two = Make("ab", [("A", 1, WALK), ("B", 1, ((0, 1, (0, 0, 0)),))], 1)
        script = (("say", "a"), ("wait", "x"), ("wait", "y"), ("say", "b"))
        told = AllValues(two, "A", "B", program(*script), (0, 4))
        self.assertEqual(told.least_values, (0, 3))
        times = AllValues(two, "A", "B", program(("repeat", "x", (("say", "a"), ("wait", "y"), ("say", "b")))), (0, 4))
        self.assertEqual(times.least_values, (2, 1))

    def test_great_values(self):
        told = AllValues(walkers(), "A", "A", MARCH, (1, 2))
        great = 10 ** 40 - 1
        self.assertEqual(told.outcome({"y": great, "x": great}), (0, 1, "b", 1))
        self.assertEqual(told.outcome({"y": great, "x": 0}), (0, 0, ".", 1))
        make = Make("a", [("A", 1, FOUR)], 0)
        turn = AllValues(make, "A", "A", program(("repeat", "x", (("say", "a"),)), words="a"), (0, 9))
        for value in (4, 9, 400, 4 * 10 ** 38, 4 * 10 ** 38 + 3):
            self.assertEqual(turn.outcome({"x": value}), plain_outcome(make, "A", "A", (0, 9), "a" * (value % 4 + 4)))

    def test_against_plain_lookers(self):
        rng = seeded(241)
        verdicts = [0, 0]
        for at in range(40):
            make = Make("ab", [(name, rng.randint(1, 2), random_standings(rng, 3, most=3, steady=at % 2 == 0))
                               for name in "AB"], rng.randint(0, 3))
            ahead, behind = rng.choice("AB"), rng.choice("AB")
            wish = (rng.randint(0, 1), rng.randint(2, 5))
            inner = [("say", rng.choice("ab")), ("wait", rng.choice([1, "y"])), ("say", "b")]
            rng.shuffle(inner)
            told_program = program(("wait", rng.randint(0, 2)), ("repeat", rng.choice(["x", 2]), inner),
                                   rng.choice([("say", "a"), ("wait", "z")]))
            try:
                told = AllValues(make, ahead, behind, told_program, wish)
            except TooMany:
                continue
            names = told_program.variables
            verdicts[bool(told)] += 1
            broken = []
            looker = Looker(make, ahead, behind, wish)
            for values in itertools.product(range(6), repeat=len(names)):
                found = looker.outcome(written(told_program.script, dict(zip(names, values))))
                self.assertEqual(told.outcome(dict(zip(names, values))), found)
                broken += [] if found else [(sum(values), values)]
            if told:
                self.assertEqual(broken, [])
            elif sum(told.least_values) < 6:
                self.assertEqual(told.least_values, min(broken)[1])
            kinds = value_kinds(make, ahead, behind, told_program, wish)
            rows = list(itertools.product(*[range(lag + period) for _, lag, period in kinds]))
            self.assertEqual([row[0] for row in told], rows)
            self.assertEqual([row[1] for row in told], [told.outcome(dict(zip(names, row))) for row in rows])
        self.assertGreater(min(verdicts), 5)

    def test_values(self):
        told = AllValues(walkers(), "A", "A", MARCH, (1, 2))
        for worth in (-1, True, None, "1", 1.0):
            self.assertEqual(raised(BadValue, told.outcome, {"x": worth, "y": worth, "z": 0}).name, "x")
            self.assertEqual(raised(BadValue, told.outcome, {"y": worth, "x": 1, "z": 0}).name, "y")
        self.assertEqual(raised(BadValue, told.outcome, {}).name, "x")
        for key in ("z", 1, None):
            self.assertIs(raised(Unknown, told.outcome, {"y": 1, key: 1, "q": 1, "x": 100}).name, key)

    def test_pair_states(self):
        # 5 times 5 standings, 2 windows and 30 gaps are 1,500.
        rows = tuple((int(at > 0), 1, (at, (at + 1) % 5)) for at in range(5))
        make = Make("a", [("A", 1, rows)], 0)
        told = program(("say", "a"), words="a")
        self.assertEqual(len(AllValues(make, "A", "A", told, (0, 29))), 1)
        self.assertEqual(value_kinds(make, "A", "A", told, (31, 60)), ())
        for call in (AllValues, value_kinds):
            self.assertEqual(raised(TooMany, call, make, "A", "A", told, (0, 30)).word, "state")
        # Windows have signs of the make as many as the lag of the one ahead.
        two = Make("ab", [("A", 3, WALK), ("B", 1, WALK)])
        self.assertEqual(raised(TooMany, AllValues, two, "A", "B", program(), (0, 13)).word, "state")
        self.assertTrue(AllValues(two, "A", "B", program(), (0, 12)))
        self.assertTrue(AllValues(two, "B", "A", program(), (0, 60)))

    def test_tuples_of_kinds(self):
        make = Make("a", [("A", 1, SET_OFF)], 0)
        three = program(("repeat", "x", (("say", "a"), ("wait", "z"))), ("wait", "y"), words="a")
        told = AllValues(make, "A", "A", three, (0, 8))
        self.assertEqual(len(told), 300)
        self.assertEqual(list(told)[-1][0], (2, 9, 9))
        make = Make("a", [("A", 1, FOUR)], 0)
        turn = program(("repeat", "x", (("say", "a"),)), ("wait", "y"), words="a")
        self.assertEqual(raised(TooMany, AllValues, make, "A", "A", turn, (0, 41)).word, "value")
        self.assertEqual(len(AllValues(make, "A", "A", turn, (0, 40))), 294)
        self.assertEqual(len(value_kinds(make, "A", "A", turn, (0, 41))), 2)

    def test_order_of_errors(self):
        make = two_kinds()
        other = program(("answer",), words="abc")
        asks = program(("say", "a"), ("repeat", 2, (("wait", 1), ("answer",))), ("answer",))
        for call in (AllValues, value_kinds):
            for name in ("C", "", None, True, ["A"]):
                self.assertIs(raised(Unknown, call, make, name, "?", other, None).name, name)
                self.assertIs(raised(Unknown, call, make, "A", name, other, None).name, name)
            self.assertEqual(raised(Unlike, call, make, "A", "A", other, None).word, "words")
            self.assertEqual(raised(HasAnswer, call, make, "A", "A", asks, None).number, 3)
            for wish in (None, (1,), (2, 1), (0, 61), (True, 3)):
                self.assertIs(raised(BadWish, call, make, "A", "A", MARCH, wish).wish, wish)


if __name__ == "__main__":
    unittest.main()
