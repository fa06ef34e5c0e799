"""[21] nodes, rises and falls, lag, period and gains, when a table is right."""

import unittest

from helpers import FREE, raised, random_make, random_plan, seeded, waited_texts, walkers
from tailheard.errors import BadBeats, BadSign, NoNode, TooMany, Unknown
from tailheard.heard import hearing_states
from tailheard.makes import Make
from tailheard.plans import Plan
from tailheard.plantext import read_plan
from tailheard.rises import Rises, judge_rises

# One word `a`: a step of one pace.
HOP = ((0, 1, (0, 1)), (1, 1, (0, 1)))
# Walks on to and fro behind `a`.
SWAY = ((0, 1, (0, 1)), (1, 1, (2, 1)), (-1, 1, (1, 1)))
STILL = ((0, 1, (0, 0)),)
TOGGLE = ((0, 1, (0, 1)), (0, 1, (1, 0)))


def single(rows, words="a"):
    return Make(words, [("A", 1, rows)])


def row_of_silences(many, more):
    """The states of a plan with so many silences, and more behind them."""
    return [[(".", at + 1)] for at in range(many)] + more


def onward(make, name, calls, node):
    """The pairs (stride, node) of a node, told from the attributes of the plan alone."""
    state, standing = node
    pairs = []
    if state == -1:
        pairs = [(".", -1)]
    else:
        if state == -2:
            pairs.append((".", -2))
        pairs += list(calls.states[max(state, 0)])
        if max(state, 0) in calls.ends:
            pairs.append((".", -1))
    found = []
    for sign, onto in pairs:
        further = make[name][standing][2][("." + make.words).index(sign)]
        found.append((make[name][further][0], (onto, further)))
    return found


def plain_rises(make, name, calls, beats, best):
    """For each node its rises (or falls) up to a number of beats."""
    nodes = [(-2, 0)]
    for node in nodes:
        nodes += [onto for onto in dict.fromkeys(each for _, each in onward(make, name, calls, node))
                  if onto not in nodes]
    rows = {node: [0] for node in nodes}
    for beat in range(beats):
        new = {node: best(stride + rows[onto][beat] for stride, onto in onward(make, name, calls, node))
               for node in nodes}
        for node in nodes:
            rows[node].append(new[node])
    return rows


class NodesTest(unittest.TestCase):
    def test_order(self):
        told = Rises(walkers(), "A", read_plan("a.*b"))
        self.assertEqual([row[:2] for row in told], [(-2, 0), (1, 1), (2, 0), (-1, 0)])
        # The waiting node, and the ended calling behind the same silence, ascending.
        self.assertEqual([row[:2] for row in Rises(walkers(), "A", FREE)],
                         [(-2, 0), (-1, 0), (0, 0), (0, 1), (-1, 1)])

    def test_against_plain_lookers(self):
        rng = seeded(130)
        for _ in range(20):
            make = random_make(rng)
            calls = random_plan(rng, ".ab")
            name = rng.choice(make.all_names)
            try:
                told = Rises(make, name, calls)
            except TooMany:
                continue
            firsts = {(-2, 0): ""}
            for text in waited_texts(calls, ".ab", 4):
                standing = make[name](0, text)
                found = [-2] if set(text) <= {"."} else []
                for wait in range(len(text)):
                    if set(text[:wait]) <= {"."}:
                        found += hearing_states(calls, text[wait:])
                for state in sorted(set(found)):
                    if text:
                        firsts.setdefault((state, standing), text)
            listed = sorted(firsts, key=lambda node: (len(firsts[node]), firsts[node], node))
            self.assertEqual([row[:2] for row in told][:len(listed)], listed)

    def test_a_hundred(self):
        make = single(TOGGLE)
        both = [[(".", at + 1), ("a", at + 1)] for at in range(1, 49)]
        self.assertEqual(len(Rises(make, "A", Plan([[("a", 1)], *both, []], [49]))), 100)
        more = Plan([[(".", 1), ("a", 1)], *both, []], [49])
        self.assertEqual(raised(TooMany, Rises, make, "A", more).word, "node")
        self.assertEqual(raised(TooMany, Rises, make, "A", more, falls=True).word, "node")
        self.assertEqual(judge_rises(make, "A", more, 0, 1, ()), -1)


class RisesTest(unittest.TestCase):
    def test_a_walker(self):
        told = Rises(walkers(), "A", read_plan("a.*b"))
        self.assertEqual((told.lag, told.period), (0, 1))
        self.assertEqual(told.table, ((-2, 0, 1, (0, 1, 2)), (1, 1, 1, (0, 1, 2)), (2, 0, 0, (0, 0, 0)),
                                      (-1, 0, 0, (0, 0, 0))))
        self.assertEqual((len(told), list(told)), (4, list(told.table)))
        falls = Rises(walkers(), "A", read_plan("a.*b"), falls=True)
        self.assertEqual(falls.table, tuple((*row[:2], 0, (0, 0, 0)) for row in told.table))
        self.assertEqual([told.gain(row[:2]) for row in told], [1, 1, 0, 0])

    def test_steps_that_come_seldom(self):
        calls = Plan([[("a", 1)], [(".", 2)], [(".", 0)]])
        told = Rises(single(HOP), "A", calls)
        self.assertEqual((told.lag, told.period), (0, 3))
        self.assertEqual(told.table[0], (-2, 0, 1, (0, 1, 1, 1, 2, 2, 2)))
        self.assertEqual(told.rise((-2, 0), 10 ** 39), 10 ** 39 // 3 + 1)
        self.assertEqual([told.rise((1, 1), beats) for beats in (0, 1, 2, 3, 4, 3 * 10 ** 38, 3 * 10 ** 38 + 2)],
                         [0, 0, 0, 1, 1, 10 ** 38, 10 ** 38])
        self.assertEqual(told.gain([1, 1]), 1)

    def test_falls_below_zero(self):
        make = single(((0, 1, (0, 1)), (-3, 1, (0, 1)), (2, 1, (2, 2))))
        told = Rises(make, "A", read_plan("a*"), falls=True)
        self.assertEqual((told.lag, told.period, told.table[0]), (0, 1, (-2, 0, -3, (0, -3, -6))))
        self.assertEqual(told.rise((-2, 0), 10 ** 40 - 1), -3 * (10 ** 40 - 1))
        self.assertEqual(Rises(make, "A", read_plan("a*")).rise((-2, 0), 10 ** 40 - 1), 0)

    def test_below_and_behind_the_lag(self):
        calls = Plan(row_of_silences(4, [[("a", 5)], []]), [5])
        told = Rises(single(((0, 1, (0, 1)), (1, 1, (1, 1)))), "A", calls)
        self.assertEqual((told.lag, told.period), (4, 1))
        self.assertEqual([told.rise((-2, 0), beats) for beats in range(8)], [0, 0, 0, 0, 0, 1, 2, 3])
        self.assertEqual([told.rise((3, 0), beats) for beats in range(8)], [0, 0, 1, 2, 3, 4, 5, 6])
        self.assertEqual(told.rise((-2, 0), 10 ** 39), 10 ** 39 - 4)

    def test_sixty_beats(self):
        hop = single(HOP)
        around = Rises(hop, "A", Plan(row_of_silences(59, [[("a", 0)]])))
        self.assertEqual((around.lag, around.period), (0, 60))
        self.assertEqual(around.rise((-2, 0), 6 * 10 ** 38), 10 ** 37)
        late = Rises(single(SWAY), "A", Plan(row_of_silences(57, [[("a", 58)], []]), [58]))
        self.assertEqual((late.lag, late.period), (58, 2))
        self.assertEqual(len(late.table[0][3]), 63)
        later = Plan(row_of_silences(58, [[("a", 59)], []]), [59])
        self.assertEqual(raised(TooMany, Rises, single(SWAY), "A", later).word, "beat")
        back = single(((0, 1, (0, 1)), (-1, 1, (2, 1)), (1, 1, (1, 1))))
        self.assertEqual(raised(TooMany, Rises, back, "A", later, falls=True).word, "beat")

    def test_rounds_of_unlike_lengths(self):
        # Two rounds of 7 and 9 beats: behind `.` one is chosen, so the period is 63.
        rows = [[("a", 1), ("b", 8)]] + [[(".", at)] for at in range(2, 8)] + [[("a", 1)]]
        rows += [[(".", at)] for at in range(9, 17)] + [[("b", 8)]]
        make = Make("ab", [("A", 1, ((0, 1, (0, 1, 1)), (1, 1, (0, 1, 1))))])
        self.assertEqual(raised(TooMany, Rises, make, "A", Plan(rows)).word, "beat")

    def test_against_plain_lookers(self):
        rng = seeded(131)
        kinds = {}
        for at in range(80):
            make = random_make(rng, stride=rng.choice([1, 3]))
            calls = random_plan(rng, ".ab", most=6, share=0.5)
            name = rng.choice(make.all_names)
            falls = at % 2 == 1
            rows = plain_rises(make, name, calls, 240, min if falls else max)

            def fits(lag, period):
                for row in rows.values():
                    gain = row[lag + period] - row[lag]
                    if any(row[beat + period] - row[beat] != gain for beat in range(lag, 241 - period)):
                        return False
                return True

            told = Rises(make, name, calls, falls=falls)
            least = [period for period in range(1, 61) if fits(120, period)][0]
            lag = [lag for lag in range(121) if fits(lag, least)][0]
            self.assertEqual((told.lag, told.period), (lag, least))
            kinds[(lag > 0, least > 1)] = True
            for row in told:
                self.assertEqual(row[3], tuple(rows[row[:2]][:lag + 2 * least + 1]))
                self.assertEqual(row[2], rows[row[:2]][lag + least] - rows[row[:2]][lag])
                self.assertEqual([told.rise(row[:2], beats) for beats in range(200)], rows[row[:2]][:200])
            self.assertEqual(len(told), len(rows))
            self.assertIsNone(judge_rises(make, name, calls, lag, least, told.table, falls=falls))
        self.assertEqual(len(kinds), 4)

    def test_looking_up(self):
        told = Rises(walkers(), "A", FREE)
        self.assertEqual(told.rise([-2, 0], 3), 3)
        for node in ((0, 2), (True, 0), (0, False), (0, True), (1, 0), (-2, 1), (-3, 0), None, 0, (), (0,), (0, 0, 0),
                     "00", {}, [[0], 0]):
            self.assertIs(raised(NoNode, told.rise, node, -1).node, node)
            self.assertIs(raised(NoNode, told.gain, node).node, node)
        for beats in (-1, None, True, "1", 1.0):
            self.assertIs(raised(BadBeats, told.rise, (-2, 0), beats).beats, beats)

    def test_order_of_errors(self):
        make = walkers()
        bad = Plan([[("c", 0)]])
        for call in (Rises, lambda *things: judge_rises(*things, 0, 1, None)):
            for name in ("B", "AA", "", None, ["A"], True):
                self.assertIs(raised(Unknown, call, make, name, bad).name, name)
            self.assertEqual(raised(BadSign, call, make, "A", bad).sign, "c")


class JudgeTest(unittest.TestCase):
    make = single(HOP)
    calls = Plan([[("a", 1)], [(".", 2)], [(".", 0)]])
    told = Rises(make, "A", calls)
    table = told.table

    def judge(self, *rows, lag=0, period=3):
        return judge_rises(self.make, "A", self.calls, lag, period, rows)

    def changed(self, at, row):
        return (*self.table[:at], row, *self.table[at + 1:])

    def test_right(self):
        self.assertEqual(len(self.table), 5)
        self.assertIsNone(self.judge(*self.table))
        self.assertIsNone(self.judge(*reversed(self.table)))
        self.assertIsNone(self.judge(*self.table, *self.table))
        self.assertIsNone(judge_rises(self.make, "A", self.calls, 0, 3, [[*row[:3], list(row[3])]
                                                                       for row in self.table]))

    def test_other_lags_and_periods(self):
        for lag, period in ((0, 6), (1, 3), (7, 9), (30, 30)):
            wide = tuple((*row[:2], row[2] * (period // 3),
                          tuple(self.told.rise(row[:2], beats) for beats in range(lag + 2 * period + 1)))
                         for row in self.table)
            self.assertIsNone(self.judge(*wide, lag=lag, period=period))
            self.assertEqual(self.judge(*self.table, lag=lag, period=period), -1)
        short = tuple((*row[:3], row[3][:5]) for row in self.table)
        self.assertEqual(self.judge(*short, lag=0, period=2), 0)
        # The right rises with a period that they do not have.
        wrong = tuple((*row[:3], tuple(self.told.rise(row[:2], beats) for beats in range(9))) for row in self.table)
        self.assertEqual(self.judge(*wrong, lag=0, period=4), 0)

    def test_a_row_less(self):
        order = [row[:2] for row in self.table]
        for at in range(len(order)):
            rows = self.table[:at] + self.table[at + 1:]
            lacking = [number for number, row in enumerate(rows)
                       if order[at] in [onto for _, onto in onward(self.make, "A", self.calls, row[:2])]]
            self.assertEqual(self.judge(*rows), -1 if at == 0 else lacking[0])

    def test_a_number_changed(self):
        for at, row in enumerate(self.table):
            for beat in range(7):
                for more in (-1, 1):
                    rises = tuple(rise + more * (place == beat) for place, rise in enumerate(row[3]))
                    self.assertIsNotNone(self.judge(*self.changed(at, (*row[:3], rises))))
            for more in (-1, 1):
                self.assertIsNotNone(self.judge(*self.changed(at, (*row[:2], row[2] + more, row[3]))))

    def test_zero_beats(self):
        # All rises greater by one: only the rises for no beats are wrong.
        more = tuple((*row[:3], tuple(rise + 1 for rise in row[3])) for row in self.table)
        self.assertEqual(self.judge(*more), 0)

    def test_gains(self):
        # Rises that look even for a while: behind the silences the group walks, which the table must not leave out.
        make = single(((0, 1, (0, 1)), (1, 1, (1, 1))))
        calls = Plan(row_of_silences(9, [[("a", 10)], []]), [10])
        right = Rises(make, "A", calls)
        self.assertEqual(right.lag, 9)
        early = [(*row[:2], right.rise(row[:2], 1), tuple(right.rise(row[:2], beats) for beats in range(3)))
                 for row in right]
        self.assertEqual(judge_rises(make, "A", calls, 0, 1, early), [row[:2] for row in early].index((8, 0)))

    def test_gains_alone(self):
        # `a` makes three paces at once, `b` one for each beat: for some beats it looks as if nothing were gained.
        make = Make("ab", [("A", 1, ((0, 1, (0, 1, 2)), (3, 1, (0, 0, 0)), (1, 1, (2, 2, 2))))])
        calls = read_plan("a|b")
        right = Rises(make, "A", calls)
        self.assertEqual((right.lag, right.rise((-2, 0), 3), right.rise((-2, 0), 4)), (3, 3, 4))
        early = [(*row[:2], right.rise(row[:2], 2) - right.rise(row[:2], 1),
                  tuple(right.rise(row[:2], beats) for beats in range(4))) for row in right]
        self.assertEqual(early[0], (-2, 0, 0, (0, 3, 3, 3)))
        self.assertEqual(judge_rises(make, "A", calls, 1, 1, early), 0)
        self.assertIsNone(judge_rises(make, "A", calls, 3, 1, right.table))

    def test_the_last_beat_of_the_period(self):
        make = single(((0, 1, (0, 1)), (1, 1, (1, 1))))
        calls = Plan(row_of_silences(4, [[("a", 5)], []]), [5])
        right = Rises(make, "A", calls)
        # Up to the beat 4 nothing is gained; the row behind it lies about its own gain.
        rows = [(*row[:2], 0 if row[:2] in ((-2, 0), (1, 0)) else row[2],
                 tuple(right.rise(row[:2], beats) for beats in range(6))) for row in right]
        self.assertEqual(rows[0], (-2, 0, 0, (0, 0, 0, 0, 0, 1)))
        self.assertEqual(judge_rises(make, "A", calls, 3, 1, rows), 0)
        # The first beat is looked at as well.
        first = (-2, 0, 1, (0, -1, *right.table[0][3][2:]))
        self.assertEqual(right.lag, 4)
        self.assertEqual(judge_rises(make, "A", calls, 4, 1, [first, *right.table[1:]]), 0)

    def test_rows_without_the_form(self):
        good = self.table[2]
        for row in (None, 0, (), good[:3], (*good, 0), (3, *good[1:]), (-3, *good[1:]), (True, *good[1:]),
                    (good[0], 2, *good[2:]), (good[0], -1, *good[2:]), (good[0], False, *good[2:]),
                    (*good[:2], None, good[3]), (*good[:2], True, good[3]), (*good[:3], good[3][:6]),
                    (*good[:3], (*good[3], 3)), (*good[:3], None), (*good[:3], "0000000"),
                    (*good[:3], (False, *good[3][1:])), (*good[:3], (None, *good[3][1:])), "0011", {},
                    ({}, *good[1:]), (*good[:3], ({}, *good[3][1:]))):
            self.assertEqual(self.judge(*self.table, row), len(self.table), row)
            self.assertEqual(self.judge(row, *self.table), 0, row)
            self.assertIsNotNone(self.judge(*self.changed(2, row)))

    def test_first_rows_tell(self):
        at = [row[:2] for row in self.table].index((1, 1))
        lying = (1, 1, 1, (0, 9, 9, 9, 9, 9, 9))
        self.assertEqual(self.judge(*self.table, lying), len(self.table))
        self.assertEqual(self.judge(self.table[0], lying, *self.table[1:]), 0)
        self.assertGreater(at, 0)

    def test_rows_never_reached(self):
        # (0, 1) stands ahead of the calling, but is never reached.
        row = (2, 1, 1, (0, 0, 1, 1, 1, 2, 2))
        self.assertNotIn((2, 1), [each[:2] for each in self.table])
        self.assertIsNone(self.judge(*self.table, row))
        self.assertEqual(self.judge(*self.table, (2, 1, 1, (0, 1, 1, 1, 2, 2, 2))), len(self.table))

    def test_a_step_to_itself(self):
        # The row of the waiting node stands twice; the step back to it asks the first one.
        make = single(STILL)
        calls = read_plan("a")
        table = Rises(make, "A", calls).table
        self.assertIsNone(judge_rises(make, "A", calls, 0, 1, table))
        more = (-1, 0, 1, (0, 1, 2))
        self.assertEqual(judge_rises(make, "A", calls, 0, 1, (*table, more)), len(table))
        self.assertEqual(judge_rises(make, "A", calls, 0, 1, (*table, (-1, 0, 1, (0, 0, 0)))), len(table))

    def test_falls(self):
        calls = read_plan("a*")
        make = single(((0, 1, (0, 1)), (-3, 1, (0, 1))))
        table = Rises(make, "A", calls, falls=True).table
        self.assertIsNone(judge_rises(make, "A", calls, 0, 1, table, falls=True))
        self.assertEqual(judge_rises(make, "A", calls, 0, 1, table), 0)
        self.assertEqual(judge_rises(make, "A", calls, 0, 1, table, falls=False), 0)
        high = tuple((*row[:2], 0, (0, 0, 0)) for row in table)
        self.assertEqual(judge_rises(make, "A", calls, 0, 1, high, falls=True), 0)
        self.assertIsNone(judge_rises(make, "A", calls, 0, 1, high))

    def test_the_beginning(self):
        for table in (None, 0, (), self.table[1:], "a", (None,), {}, [self.table[1]]):
            self.assertEqual(judge_rises(self.make, "A", self.calls, 0, 3, table), -1)


if __name__ == "__main__":
    unittest.main()
