"""[33] one effect of two programs."""

import itertools
import unittest

from helpers import WALK, raised, random_standings, seeded, walkers
from tailheard.callings import calling_of
from tailheard.drills import Drill
from tailheard.effects import Effects
from tailheard.errors import HasAnswer, Nested, TooMany, Unknown, Unlike
from tailheard.makes import Make
from tailheard.programs import Program


def program(*script, words="ab"):
    return Program(words, script)


def turning(*sizes):
    """A make whose kinds each turn by one standing for `a`, through so many standings; the last one walks."""
    rows = [("ABCD"[at], 1, tuple((int(place == size - 1 and place > 0), 1, (place, (place + 1) % size))
                                  for place in range(size))) for at, size in enumerate(sizes)]
    return Make("a", rows)


def effect(drill, told, values):
    text = calling_of(told, values)
    return drill(0, text), drill.walk(0, text)


def plain_marks(drill, programs, name):
    """The number of marks of a variable that heads one `wait` or `repeat` of each program."""
    rows = []
    for told in programs:
        for row in told.statements():
            if row[0] in ("wait", "repeat") and row[1] == name:
                body = "." if row[0] == "wait" else calling_of(Program(told.words, row[2]), {})
                layers = [list(range(len(drill)))]
                for _ in range(200):
                    onward = []
                    for standing in layers[-1]:
                        for sign in body:
                            standing = drill[standing][2][("." + drill.words).index(sign)]
                        onward.append(standing)
                    layers.append(onward)
                rows.append(layers)
    period = [period for period in range(1, 99) if all(row[99] == row[99 + period] for row in rows)][0]
    lag = [lag for lag in range(99) if all(row[lag] == row[lag + period] for row in rows)][0]
    return lag + 2 * period


class EffectsTest(unittest.TestCase):
    def test_one_effect(self):
        one = program(("repeat", "x", (("say", "a"),)))
        two = program(("repeat", "x", (("say", "b"), ("say", "a"))))
        self.assertFalse(Effects(walkers(), "A", one, program(("repeat", "x", (("say", "a"), ("wait", 1))))))
        told = Effects(walkers(), "A", one, two)
        self.assertIs(bool(told), True)
        self.assertEqual(told.table, (((0,), 0, 0), ((1,), 1, 1), ((2,), 1, 2)))
        self.assertEqual((told.least_values, told.effects, len(told), list(told)), (None, None, 3, list(told.table)))

    def test_other_effects(self):
        one = program(("say", "a"), ("wait", "x"), ("say", "b"))
        told = Effects(walkers(), "A", one, program(("say", "a"), ("wait", "x")))
        self.assertIs(bool(told), False)
        self.assertEqual((told.least_values, told.effects), ((0,), ((0, 1), (1, 1))))
        self.assertEqual((told.table, len(told), list(told)), (None, 0, []))
        # The same standing, but another walk: only where there is something to wait for.
        other = program(("say", "a"), ("say", "b"), ("wait", "x"))
        told = Effects(walkers(), "A", one, other)
        self.assertEqual((told.least_values, told.effects), ((1,), ((0, 2), (0, 1))))

    def test_walks_that_part_late(self):
        # The first passes are the same; from some pass on one of the walks grows otherwise.
        rows = ((0, 1, (0, 1, 3)), (0, 1, (1, 2, 1)), (1, 1, (2, 2, 2)), (0, 1, (3, 4, 3)), (2, 1, (2, 2, 2)))
        make = Make("ab", [("A", 1, rows)])
        one = program(("repeat", "x", (("say", "a"),)))
        two = program(("repeat", "x", (("say", "a"), ("repeat", 0, ()))))
        self.assertEqual([row[0] for row in Effects(make, "A", one, two)], [(0,), (1,), (2,), (3,)])
        found = Effects(make, "A", one, program(("say", "b"), ("repeat", "x", (("say", "a"),))))
        self.assertEqual(found.least_values, (0,))

    def test_without_variables(self):
        told = Effects(walkers(), "A", program(("say", "a"), ("say", "b")), program(("say", "b"), ("wait", 7)))
        self.assertEqual((told.least_values, told.effects), ((), ((0, 1), (0, 0))))
        same = Effects(walkers(), "A", program(("repeat", 2, (("say", "a"),))), program(("say", "a"), ("wait", 1)))
        self.assertEqual(same.table, (((), 1, 2),))

    def test_variables_in_another_order(self):
        one = program(("say", "a"), ("wait", "x"), ("say", "b"), ("wait", "y"))
        two = program(("wait", "y"), ("say", "a"), ("wait", "x"), ("say", "b"))
        told = Effects(walkers(), "A", one, two)
        self.assertTrue(told)
        self.assertEqual([row[0] for row in told], list(itertools.product(range(2), repeat=2)))
        parted = Effects(walkers(), "A", one, program(("wait", "x"), ("say", "a"), ("wait", "y"), ("say", "b")))
        # The order of the first program: x and then y.
        self.assertEqual((parted.least_values, parted.effects), ((0, 1), ((0, 1), (0, 2))))
        back = Effects(walkers(), "A", program(("wait", "y"), ("say", "a"), ("wait", "x"), ("say", "b")),
                       program(("wait", "x"), ("say", "a"), ("wait", "y"), ("say", "b")))
        self.assertEqual((back.least_values, back.effects), ((0, 1), ((0, 2), (0, 1))))

    def test_rounds_of_both_programs(self):
        make = turning(6)
        one = program(("repeat", "x", (("say", "a"),) * 2), words="a")
        two = program(("repeat", "x", (("say", "a"),) * 14), words="a")
        told = Effects(make, "A", one, two)
        # Rounds of three passes; the walks part behind the first of them that comes to the standing that walks.
        self.assertEqual(told.least_values, (1,))
        whole = Effects(make, "A", one, program(("repeat", "x", (("say", "a"), ("say", "a"), ("wait", 0))), words="a"))
        self.assertEqual([row[0] for row in whole], [(mark,) for mark in range(6)])

    def test_against_plain_lookers(self):
        rng = seeded(260)
        verdicts = [0, 0]
        for _ in range(250):
            make = Make("ab", [("A", 1, random_standings(rng, 3, most=3, steady=rng.random() < 0.5))])
            bodies = [[("say", rng.choice("ab")), rng.choice([("say", "a"), ("wait", 2)])] for _ in range(2)]
            halves = [[("wait", "x"), ("repeat", "y", bodies[0])], [("wait", "x"), ("repeat", "y", bodies[1])]]
            if rng.random() < 0.5:
                halves[1] = list(halves[0])
                halves[1].insert(rng.randint(0, 2), rng.choice([("say", "a"), ("wait", 1), ("repeat", 2, ())]))
            programs = [program(*rows) for rows in halves]
            told = Effects(make, "A", *programs)
            drill = Drill("ab", make["A"].standings)
            verdicts[bool(told)] += 1
            parted = []
            for row in itertools.product(range(12), repeat=2):
                values = dict(zip(("x", "y"), row))
                one, two = [effect(drill, each, values) for each in programs]
                if one != two:
                    parted.append((sum(row), row, (one, two)))
            if told:
                self.assertEqual(parted, [])
                limits = [plain_marks(drill, programs, name) for name in "xy"]
                self.assertEqual([row[0] for row in told], list(itertools.product(*map(range, limits))))
                for row, standing, walk in told:
                    self.assertEqual((standing, walk), effect(drill, programs[0], dict(zip("xy", row))))
            else:
                self.assertEqual((told.least_values, told.effects), min(parted)[1:])
        self.assertGreater(min(verdicts), 30)

    def test_marks(self):
        # In each case the number of marks is the lag and two periods: 1 + 2 * 2 and 2 * 5 for a round of 5.
        make = turning(5)
        script = (("repeat", "x", (("say", "a"),)), ("repeat", "y", (("say", "a"),)))
        told = Effects(make, "A", program(*script, words="a"), program(*script, ("wait", 0), words="a"))
        self.assertEqual(len(told), 100)
        third = (*script, ("wait", "z"))
        told = Effects(make, "A", program(*third, words="a"), program(*third, words="a"))
        self.assertEqual(len(told), 200)

    def test_five_hundred(self):
        # `a` turns through five standings, which makes 10 marks; `b` comes to rest behind three passes, or four.
        script = [("repeat", name, (("say", "a" if name < "z" else "b"),)) for name in "xyz"]
        for last in (3, 4):
            rows = tuple((0, 1, (at, (at + 1) % 5, min(at + 1, last))) for at in range(5))
            make = Make("ab", [("A", 1, rows)])
            if last == 3:
                told = Effects(make, "A", program(*script), program(*script, ("wait", 3)))
                self.assertEqual((bool(told), len(told)), (True, 500))
                self.assertEqual(told.table[-1][0], (9, 9, 4))
            else:
                # Whether or not they have one effect.
                for other in (program(*script), program(("say", "a"), *script)):
                    self.assertEqual(raised(TooMany, Effects, make, "A", program(*script), other).word, "value")

    def test_rounds_in_both_programs(self):
        # Five passes in the one and two in the other: in both the same only behind ten, so there are 20 marks.
        rows = ((0, 1, (0, 1, 0)), (0, 1, (1, 2, 1)), (0, 1, (2, 3, 2)), (0, 1, (3, 4, 3)), (0, 1, (4, 0, 4)))
        make = Make("ab", [("A", 1, rows)])
        one = program(("repeat", "x", (("say", "a"),)))
        five = program(("repeat", "x", (("say", "a"),) * 6))
        self.assertEqual(len(Effects(make, "A", one, five)), 10)
        mixed = ((0, 1, (0, 1, 0)), (0, 1, (1, 0, 2)), (0, 1, (2, 2, 3)), (0, 1, (3, 3, 1)))
        make = Make("ab", [("A", 1, mixed)])
        # At rest `b` does nothing; elsewhere it turns by three standings, and `a` by two.
        told = Effects(make, "A", program(("repeat", "x", (("say", "b"),))),
                       program(("repeat", "x", (("say", "a"), ("say", "a")))))
        self.assertEqual(len(told), 2 * 3)
        parted = Effects(make, "A", program(("repeat", "x", (("say", "b"),))), program(("repeat", "x", (("say", "a"),))))
        self.assertEqual(parted.least_values, (1,))

    def test_great_walks(self):
        # The walks are compared as they are, also where marks are great.
        make = Make("a", [("A", 1, ((0, 1, (0, 1)), (3, 1, (1, 1))))])
        told = Effects(make, "A",
                       program(("say", "a"), ("repeat", 99, (("repeat", 99, (("wait", 99),)),)), words="a"),
                       program(("say", "a"), ("repeat", 99, (("wait", 99), ("repeat", 98, (("wait", 99),)))), words="a"))
        self.assertEqual(told.table, (((), 1, 3 + 3 * 99 ** 3),))

    def test_order_of_errors(self):
        make = walkers()
        plain = program(("wait", "x"))
        other = program(("wait", "y"), ("answer",), words="abc")
        asks = program(("wait", "x"), ("repeat", 2, (("answer",),)))
        for name in ("B", "", None, True, ["A"]):
            self.assertIs(raised(Unknown, Effects, make, name, other, other).name, name)
        self.assertEqual(raised(Unlike, Effects, make, "A", other, program()).word, "words")
        self.assertEqual(raised(Unlike, Effects, make, "A", program(("answer",)), other).word, "words")
        self.assertEqual(raised(Unlike, Effects, make, "A", asks, program()).word, "variables")
        self.assertEqual(raised(Unlike, Effects, make, "A", plain, program(("wait", "x"), ("wait", "y"))).word,
                         "variables")
        self.assertEqual(raised(HasAnswer, Effects, make, "A", asks, program(("answer",), ("wait", "x"))).number, 2)
        nested = program(("wait", "z"), ("repeat", "x", (("repeat", 2, (("wait", "y"),)),)))
        flat = program(("wait", "x"), ("wait", "y"), ("wait", "z"))
        late = program(*flat.script, ("answer",))
        # The answer of the second program goes ahead of what is nested in the first.
        self.assertEqual(raised(HasAnswer, Effects, make, "A", nested, late).number, 3)
        self.assertEqual(raised(Nested, Effects, make, "A", nested, flat).name, "x")
        self.assertEqual(raised(Nested, Effects, make, "A", flat, nested).name, "x")
        deep = program(("repeat", "z", (("repeat", "y", (("wait", "x"),)),)))
        self.assertEqual(raised(Nested, Effects, make, "A", nested, deep).name, "x")
        self.assertEqual(raised(Nested, Effects, make, "A", deep, nested).name, "z")
        # A repeat by a number can have as many variables in its body as it likes.
        within = program(("repeat", 2, (("wait", "x"), ("wait", "y"), ("say", "a"), ("say", "b"))))
        self.assertTrue(Effects(make, "A", within, within))
        self.assertEqual(len(WALK), 2)


if __name__ == "__main__":
    unittest.main()
