"""[45] column plans in step, pace states, the least column, when a table is closed, worst and spread."""

import itertools
import unittest

from helpers import plain_apart, plain_feet, raised, random_make, random_plan, random_tune, seeded
from tailheard.columns import Column
from tailheard.errors import BadSign, BadWithin, TooMany
from tailheard.feet import Tune
from tailheard.makes import Make
from tailheard.plans import Plan
from tailheard.plantext import read_plan
from tailheard.steps import InStep, judge_step, spread, worst

STILL = ((0, 2, (0, 0)),)
MAKE = Make("a", [("B", 1, STILL), ("A", 1, ((0, 3, (0, 0)),))], 1, [("B", "A", 2)])
TUNE = Tune(MAKE, "B", 3, 10, 8)
# For numbers of pace states, makes, tunes and plans that have just so many.
SIZED = {
    600: (("a", [("C", 1, ((0, 2, (0, 0)),)), ("D", 1, ((0, 3, (0, 0)),)), ("B", 1, ((0, 1, (0, 0)),)),
                 ("A", 1, ((0, 3, (0, 0)),))], 3, [("C", "D", 0), ("C", "B", 4), ("C", "A", 4), ("B", "B", 4)]),
          ("AB", 6, 50, 25, True),
          ([[("A", 0), ("B", 2), ("C", 0)], [("B", 1), ("C", 3), ("D", 2)], [("A", 1), ("D", 2)], [("C", 0)]], [1, 3])),
    601: (("a", [("B", 1, ((0, 3, (0, 0)),)), ("A", 1, ((0, 1, (0, 0)),)), ("C", 1, ((0, 2, (0, 0)),)),
                 ("D", 1, ((0, 2, (0, 0)),))], 1,
           [("A", "B", 4), ("A", "A", 0), ("C", "A", 3), ("C", "C", 0), ("D", "A", 2), ("D", "D", 4)]),
          ("C", 11, 48, 16, True),
          ([[("A", 2), ("C", 0), ("D", 2)], [("B", 1), ("D", 2)], [("A", 1), ("D", 2)]], [2])),
}


def sized(many):
    make, tune, plan = SIZED[many]
    return Tune(Make(*make), *tune), Plan(*plan)


def pace_of(tune, plan, groups):
    """The pace state of a beginning of a column, told from all its groups."""
    state = 0
    for name in groups:
        state = dict(plan.states[state])[name]
    make = tune.make
    fronts = [0]
    for ahead, behind in zip(groups, groups[1:]):
        fronts.append(fronts[-1] - make[ahead][0][1] - make.seat_of(ahead, behind))
    feet = plain_feet(make, groups, [name in tune.bands for name in groups], tune.slow, tune.cycle, tune.earshot,
                      tune.relay)[0]
    bands = [at for at, name in enumerate(groups) if name in tune.bands]
    far = fronts[bands[-1]] - fronts[-1] if bands else None
    if far is None or far > tune.earshot:
        return (state, groups[-1], feet[-1], None, None), feet
    return (state, groups[-1], feet[-1], far, feet[bands[-1]]), feet


def plain_paces(tune, plan):
    """The pace states in order, and the least beginning with each one."""
    found, layer = {}, [""]
    while layer:
        fresh = []
        for groups in layer:
            state = 0
            for name in groups:
                state = dict(plan.states[state])[name]
            for name, _ in plan.states[state]:
                pace = pace_of(tune, plan, groups + name)[0]
                if pace not in found:
                    found[pace] = groups + name
                    fresh.append(groups + name)
        layer = fresh
    return found


def columns_of(plan, most):
    return [text for text in plan.strings(most) if text]


def apart_row(tune, groups):
    feet = tune.feet(Column(tune.make, groups))
    return [plain_apart(tune.cycle, one, two) for one, two in zip(feet, feet[1:])]


class InStepTest(unittest.TestCase):
    def test_in_step(self):
        told = InStep(TUNE, read_plan("BA*"), 2)
        self.assertEqual((bool(told), told.column, told.number), (True, None, None))
        self.assertEqual(told.table, ((1, "B", 0, 0, 0), (1, "A", 2, 4, 0), (1, "A", 4, 8, 0), (1, "A", 4, None, None)))
        self.assertEqual((len(told), list(told)), (4, list(told.table)))

    def test_out_of_step(self):
        told = InStep(TUNE, read_plan("BA*"), 1)
        self.assertEqual((bool(told), told.table, len(told), list(told)), (False, None, 0, []))
        self.assertEqual((told.column, told.number), ("BA", 0))
        # The column must be one of the plan, so it goes on behind those that are apart.
        told = InStep(TUNE, read_plan("ABAA(AB)*B"), 1)
        self.assertEqual((told.column, told.number), ("ABAAB", 1))
        told = InStep(TUNE, read_plan("BAAA|ABAB|AAABA"), 2)
        self.assertTrue(told)
        self.assertEqual(InStep(TUNE, read_plan("BAAAB|ABAB|AABAAAB"), 2).column, "BAAAB")
        self.assertEqual(InStep(TUNE, read_plan("BAAAB|ABAB|AABAAAB"), 2).number, 3)

    def test_small_plans(self):
        self.assertEqual(InStep(TUNE, Plan([[]]), 0).table, ())
        self.assertTrue(InStep(TUNE, Plan([[]]), 0))
        self.assertEqual(InStep(TUNE, read_plan("A|B"), 0).table, ((1, "A", 0, None, None), (1, "B", 0, 0, 0)))

    def test_against_a_plain_looker(self):
        rng = seeded(511)
        verdicts = []
        for _ in range(120):
            make = random_make(rng, kinds=2)
            tune, plan = random_tune(rng, make), random_plan(rng, make.all_names, most=3, share=0.6)
            within = rng.randint(0, 4)
            told = InStep(tune, plan, within)
            verdicts.append(bool(told))
            broken = [groups for groups in columns_of(plan, 8) if max(apart_row(tune, groups), default=0) > within]
            if broken:
                self.assertEqual(told.column, broken[0])
                self.assertEqual(told.number, [ticks > within for ticks in apart_row(tune, broken[0])].index(True))
            elif told:
                self.assertEqual(told.table, tuple(plain_paces(tune, plan)))
                self.assertIsNone(judge_step(tune, plan, within, told.table))
            else:
                self.assertGreater(len(told.column), 8)
                self.assertIn(told.column, plan)
        self.assertGreater(min(verdicts.count(True), verdicts.count(False)), 15)

    def test_errors(self):
        for call in (InStep, lambda *things: judge_step(*things, None)):
            self.assertEqual(raised(BadSign, call, TUNE, Plan([[(".", 0), ("A", 0)]]), None).sign, ".")
            for within in (-1, 31, True, None, "0", (0,)):
                self.assertIs(raised(BadWithin, call, TUNE, read_plan("A"), within).within, within)
        self.assertTrue(InStep(TUNE, read_plan("BA"), 30))
        for call in (worst, spread):
            self.assertEqual(raised(BadSign, call, TUNE, Plan([[("C", 0)]])).sign, "C")

    def test_too_many(self):
        at_most, more = sized(600), sized(601)
        table = tuple(plain_paces(*at_most))
        self.assertEqual((len(table), len(plain_paces(*more))), (600, 601))
        told = InStep(*at_most, 24)
        self.assertEqual(told.table, table)
        self.assertIsNone(judge_step(*at_most, 24, table))
        self.assertIsNotNone(InStep(*at_most, 23).column)
        # Whether or not the plan is in step.
        for within in (0, 30):
            self.assertEqual(raised(TooMany, InStep, *more, within).word, "pace")
        self.assertEqual(raised(TooMany, worst, *more).word, "pace")
        self.assertEqual(raised(TooMany, spread, *more).word, "pace")
        self.assertEqual(worst(*at_most)[0], 24)
        self.assertIsNone(judge_step(*more, 30, tuple(plain_paces(*more))))


class JudgeTest(unittest.TestCase):
    def setUp(self):
        self.plan = read_plan("(BA?A?)+")
        self.table = InStep(TUNE, self.plan, 4).table

    def judge(self, table, within=4):
        return judge_step(TUNE, self.plan, within, table)

    def behind(self, row):
        """The pace states behind a row, told from the row alone."""
        state, ahead, foot, far, band = row
        found = []
        for name, onto in self.plan.states[state]:
            paces = {"BB": 3, "BA": 4, "AA": 4, "AB": 4}[ahead + name]
            hears = far is not None and far + paces <= 8
            heard = (band + 3 * (far + paces)) % 10 if hears else None
            if name == "B":
                found.append((onto, "B", 0, 0, 0))
            else:
                found.append((onto, "A", heard, far + paces, band) if hears else (onto, "A", foot, None, None))
        return found

    def test_closed(self):
        for whole in (self.table, self.table[::-1], self.table * 2, [list(row) for row in self.table]):
            self.assertIsNone(self.judge(whole))
        for within in (3, 2):
            wrong = self.judge(self.table, within)
            feet = [(row, onto) for row in self.table for onto in self.behind(row)]
            self.assertEqual(self.table[wrong], [row for row, onto in feet
                                                 if plain_apart(10, row[2], onto[2]) > within][0])

    def test_beginnings(self):
        for table in ((), None, "", 0):
            self.assertEqual(self.judge(table), -1)
        both = read_plan("A*|BA*")
        table = InStep(TUNE, both, 4).table
        firsts = [at for at, row in enumerate(table) if row in (pace_of(TUNE, both, "A")[0], pace_of(TUNE, both, "B")[0])]
        self.assertEqual(len(firsts), 2)
        for at in firsts:
            self.assertEqual(judge_step(TUNE, both, 4, table[:at] + table[at + 1:]), -1)
        self.assertIsNone(judge_step(TUNE, Plan([[]]), 0, ()))
        self.assertEqual(judge_step(TUNE, Plan([[]]), 0, None), -1)

    def test_rows_taken_out(self):
        first = pace_of(TUNE, self.plan, "B")[0]
        for at, row in enumerate(self.table):
            if row != first:
                fewer = self.table[:at] + self.table[at + 1:]
                self.assertEqual(self.judge(fewer), min(number for number, each in enumerate(fewer)
                                                        if row in self.behind(each)))

    def test_rows_of_groups_with_bands_that_are_never_reached(self):
        state = self.table[0][0]
        for row in ((state, "B", 3, 5, 7), (state, "B", 9, None, None), (state, "A", 9, 0, 9), (state, "B", 0, 8, 0)):
            self.assertNotIn(row, self.table)
            queue = [row]
            for here in queue:
                queue += [onto for onto in self.behind(here) if onto not in queue]
            more = tuple(each for each in queue if each not in self.table)
            wrong = [at for at, each in enumerate(more) if any(plain_apart(10, each[2], onto[2]) > 4
                                                               for onto in self.behind(each))]
            self.assertEqual(self.judge(self.table + more), len(self.table) + wrong[0] if wrong else None, row)
            if len(more) > 1:
                self.assertEqual(self.judge(self.table + more[:1]), len(self.table))

    def test_forms(self):
        state, name, foot, far, band = self.table[0]
        for row in (None, (), self.table[0][:4], self.table[0] + (0,), (len(self.plan), *self.table[0][1:]),
                    (-1, *self.table[0][1:]), (True, *self.table[0][1:]), (state, "C", foot, far, band),
                    (state, "BA", foot, far, band), (state, "", foot, far, band), (state, None, foot, far, band),
                    (state, name, 10, far, band), (state, name, -1, far, band), (state, name, True, far, band),
                    (state, name, None, far, band), (state, name, foot, 9, band), (state, name, foot, -1, band),
                    (state, name, foot, False, band), (state, name, foot, None, band), (state, name, foot, far, None),
                    (state, name, foot, far, 10), (state, name, foot, far, -1), (state, name, foot, far, "0")):
            self.assertEqual(self.judge((row, *self.table)), 0, row)
            self.assertEqual(self.judge((row,)), -1, row)

    def test_rows_that_only_their_form_can_make_wrong(self):
        # No group follows behind the state 1, so nothing else is asked of these rows.
        plan = read_plan("A|B")
        table = InStep(TUNE, plan, 0).table
        for name in "AB":
            for foot in (0, 9):
                for far, band in ((None, None), (0, 0), (8, 9), (0, 9), (8, 0)):
                    self.assertIsNone(judge_step(TUNE, plan, 0, (*table, (1, name, foot, far, band))))
        for row in ((1, "A", 0, None, 0), (1, "A", 0, 0, None), (1, "A", 0, 9, 0), (1, "A", 0, -1, 0),
                    (1, "A", 0, False, 0), (1, "A", 0, 0, 10), (1, "A", 0, 0, -1), (1, "A", 0, 0, True),
                    (1, "A", 10, 0, 0), (1, "A", -1, 0, 0), (1, "A", False, 0, 0), (1, "C", 0, 0, 0), (2, "A", 0, 0, 0),
                    (True, "A", 0, 0, 0), (1, "A", 0, 0), (1, "A", 0, 0, 0, 0), (1, "", 0, 0, 0), (1, "AB", 0, 0, 0)):
            self.assertEqual(judge_step(TUNE, plan, 0, (*table, row)), len(table), row)


class WorstTest(unittest.TestCase):
    def test_worst(self):
        self.assertEqual(worst(TUNE, read_plan("BA*")), (2, "BA"))
        self.assertEqual(worst(TUNE, read_plan("BA*B?")), (4, "BAAB"))
        # Where all go in step, the least column of two groups has neighbours that are apart by nothing.
        self.assertEqual(worst(TUNE, read_plan("A+")), (0, "AA"))
        self.assertEqual(worst(TUNE, read_plan("(AAA)+")), (0, "AAA"))

    def test_columns_of_one_group(self):
        for text in ("A", "A|B"):
            self.assertEqual((worst(TUNE, read_plan(text)), spread(TUNE, read_plan(text))), ((0, None), 0))
        self.assertEqual((worst(TUNE, Plan([[]])), spread(TUNE, Plan([[]]))), ((0, None), 0))

    def test_spread(self):
        self.assertEqual(spread(TUNE, read_plan("BA*")), 4)
        self.assertEqual(spread(TUNE, read_plan("BA")), 2)
        self.assertEqual(spread(TUNE, read_plan("A+")), 0)
        # No column has both a group at the foot 2 and one at the foot 4.
        self.assertEqual(spread(Tune(MAKE, "B", 3, 10, 8), read_plan("BA|AAB")), 2)

    def test_against_a_plain_looker(self):
        rng = seeded(512)
        for _ in range(100):
            make = random_make(rng, kinds=2)
            tune = random_tune(rng, make)
            texts = ["".join(rng.choice(make.all_names) for _ in range(rng.randint(1, 6))) for _ in range(3)]
            plan = Plan.bearing(texts)
            rows = [(max(apart_row(tune, groups)), groups) for groups in columns_of(plan, 6) if len(groups) > 1]
            most = max([ticks for ticks, _ in rows], default=0)
            self.assertEqual(worst(tune, plan), (most, [groups for ticks, groups in rows if ticks == most][0])
                             if rows else (0, None))
            found = [0]
            for groups in columns_of(plan, 6):
                feet = tune.feet(Column(make, groups))
                found += [plain_apart(tune.cycle, one, two) for one, two in itertools.combinations(feet, 2)]
            self.assertEqual(spread(tune, plan), max(found))


if __name__ == "__main__":
    unittest.main()
