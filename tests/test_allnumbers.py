"""[32] numbers of groups, lag and period, outcomes, the least number."""

import unittest

from helpers import WALK, Looker, plain_outcome, raised, random_standings, seeded, two_kinds, walkers
from tailheard.allnumbers import AllNumbers
from tailheard.callings import calling_of
from tailheard.columns import Column
from tailheard.errors import BadNumber, BadWish, HasVariable, TooMany, Unknown, Unlike
from tailheard.makes import Make
from tailheard.programs import Program
from tailheard.runs import Run


def program(*script, words="ab"):
    return Program(words, script)


# Walks until the answer has come.
ASK = program(("say", "a"), ("answer",), ("say", "b"))
STILL = ((0, 1, (0, 0, 0)),)
# Walks on to and fro for as long as nothing is called.
SWAY = ((0, 1, (0, 1, 0)), (1, 1, (2, 1, 0)), (-1, 1, (1, 1, 0)))
# One turn of three standings in silence.
ROUND = ((0, 1, (0, 1, 0)), (1, 1, (2, 1, 0)), (0, 1, (3, 1, 0)), (-1, 1, (1, 1, 0)))


class AllNumbersTest(unittest.TestCase):
    def test_kept(self):
        told = AllNumbers(walkers(), "A", ASK, (1, 2))
        self.assertIs(bool(told), True)
        self.assertEqual((told.lag, told.period, told.least_number), (2, 1, None))
        self.assertEqual(told.table, ((2, (0, 1, "b", 1)),))
        self.assertEqual((len(told), list(told)), (1, [(2, (0, 1, "b", 1))]))

    def test_broken(self):
        told = AllNumbers(walkers(), "A", ASK, (1, 1))
        self.assertEqual((bool(told), told.least_number, told.table), (False, 2, ((2, None),)))
        self.assertIsNone(told.outcome(10 ** 39))

    def test_numbers_that_count(self):
        # Behind `a` the groups turn for as long as the answer takes: where they are caught hangs on the number.
        make = Make("ab", [("A", 1, ROUND)], 5)
        told = AllNumbers(make, "A", program(("say", "a"), ("answer",), ("say", "b")), (0, 9))
        self.assertEqual(told.period, 3)
        self.assertEqual([n for n, _ in told], list(range(2, told.lag + 3)))
        self.assertEqual(len({told.outcome(n) for n in range(2, 20)}), 3)
        for n in range(2, 20):
            self.assertEqual(told.outcome(n), plain_outcome(make, "A", "A", (0, 9), "a" + ".." * (n - 1) + "b"))
        great = 3 * 10 ** 38
        self.assertEqual([told.outcome(great + n) for n in (2, 3, 4)], [told.outcome(n) for n in (5, 6, 7)])

    def test_the_least_number(self):
        # A turn of three standings; the answer takes two beats for each group behind the head.
        make = Make("ab", [("A", 1, ROUND)], 5)
        answers = program(("say", "a"), ("answer",), ("say", "b"))
        found = set()
        for wish in ((4, 6), (5, 6), (4, 9), (5, 9), (3, 7)):
            told = AllNumbers(make, "A", answers, wish)
            broken = [n for n in range(2, 12)
                      if plain_outcome(make, "A", "A", wish, calling_of(answers, {}, n - 1)) is None]
            self.assertEqual(told.least_number, broken[0] if broken else None)
            found.add(told.least_number)
        self.assertGreater(len(found), 1)

    def test_lags_of_numbers(self):
        # Unlike neighbours drift apart in silence, so that the wish is broken from some number on.
        make = Make("ab", [("A", 1, WALK)], 1)
        told = AllNumbers(make, "A", program(), (0, 20))
        self.assertEqual((told.lag, told.period), (12, 1))
        slow = AllNumbers(Make("ab", [("A", 2, WALK)], 1), "A", program(), (0, 20))
        self.assertEqual((slow.lag, slow.period), (7, 1))
        self.assertEqual([n for n, _ in slow], list(range(2, 8)))
        still = AllNumbers(Make("ab", [("A", 1, STILL)], 1), "A", program(), (0, 20))
        self.assertEqual((still.lag, still.period), (2, 1))

    def test_a_seat_that_breaks_the_wish(self):
        told = AllNumbers(walkers(), "A", program(), (2, 3))
        self.assertEqual((bool(told), told.least_number), (False, 2))

    def test_against_plain_lookers(self):
        rng = seeded(250)
        verdicts = [0, 0]
        kinds = set()
        for at in range(45):
            make = Make("ab", [("A", rng.randint(1, 2), random_standings(rng, 3, most=4, steady=at % 3 == 0))],
                        rng.randint(0, 3))
            wish = (rng.randint(0, 1), rng.randint(2, 6))
            rows = [("say", rng.choice("ab")), ("answer",), ("say", rng.choice("ab")),
                    rng.choice([("answer",), ("wait", 1), ("repeat", 2, [("say", "a"), ("answer",)])])]
            rng.shuffle(rows)
            told_program = program(*rows)
            told = AllNumbers(make, "A", told_program, wish)
            verdicts[bool(told)] += 1
            kinds.add((told.lag > 2, told.period > 1))
            lag = make.lag_of("A")
            looker = Looker(make, "A", "A", wish)
            outcomes = {}
            for n in range(2, 16):
                outcomes[n] = looker.outcome(calling_of(told_program, {}, lag * (n - 1)))
                self.assertEqual(told.outcome(n), outcomes[n])
            self.assertEqual([n for n, _ in told], list(range(2, told.lag + told.period)))
            self.assertEqual([outcome for _, outcome in told], [told.outcome(n) for n, _ in told])
            if told.least_number is None or told.least_number < 16:
                self.assertEqual(told.least_number, min([n for n in outcomes if outcomes[n] is None], default=None))
            # The least period and lag, over all pair states.
            layers = {1: looker.states()}
            for n in range(2, 90):
                row = layers[n - 1]
                for _ in range(2 * lag):
                    row = [looker.beat(state, ".") for state in row]
                layers[n] = row
            period = [p for p in range(1, 30) if layers[59] == layers[59 + p]][0]
            least = [n for n in range(2, 60) if layers[n] == layers[n + period]][0]
            self.assertEqual((told.lag, told.period), (least, period))
        self.assertGreater(min(verdicts), 5)
        self.assertGreaterEqual(len(kinds), 3)

    def test_against_runs(self):
        make = Make("ab", [("A", 2, SWAY)], 3)
        told = AllNumbers(make, "A", ASK, (0, 9))
        for n in (2, 5, 9):
            column = Column(make, "A" * n)
            calling = calling_of(ASK, {}, column.delay_row[-1])
            run = Run(column, calling)
            for at in range(n - 1):
                beats = column.delay_row[at] + len(calling)
                first, second, window, gap = told.outcome(n)
                self.assertEqual((first, second, gap), (*run.standings_at(beats)[at:at + 2], run.gaps_at(beats)[at]))
                self.assertEqual(window, calling[-2:])

    def test_numbers(self):
        told = AllNumbers(walkers(), "A", ASK, (1, 2))
        for n in (1, 0, -5, True, None, "2", 2.0):
            self.assertIs(raised(BadNumber, told.outcome, n).number, n)

    def test_pair_states(self):
        rows = tuple((int(at > 0), 1, (at, (at + 1) % 5)) for at in range(5))
        make = Make("a", [("A", 1, rows)], 0)
        told = program(("say", "a"), ("answer",), words="a")
        self.assertIsNotNone(AllNumbers(make, "A", told, (0, 29)).table)
        self.assertEqual(raised(TooMany, AllNumbers, make, "A", told, (0, 30)).word, "state")

    def test_order_of_errors(self):
        make = two_kinds()
        other = program(("wait", "x"), words="abc")
        for name in ("C", "", None, True, ["A"]):
            self.assertIs(raised(Unknown, AllNumbers, make, name, other, None).name, name)
        self.assertEqual(raised(Unlike, AllNumbers, make, "A", other, None).word, "words")
        asks = program(("answer",), ("repeat", "y", (("wait", "x"),)))
        self.assertEqual(raised(HasVariable, AllNumbers, make, "A", asks, None).name, "y")
        for wish in (None, (1,), (2, 1), (0, 61), (True, 3)):
            self.assertIs(raised(BadWish, AllNumbers, make, "A", ASK, wish).wish, wish)


if __name__ == "__main__":
    unittest.main()
