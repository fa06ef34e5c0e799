"""What holds over the whole program: modules that work on what others have made."""

import unittest

from helpers import STRETCH, WALK, gap_row, raised, random_make, random_plan, seeded
from tailheard.allvalues import AllValues
from tailheard.callings import calling_of, plan_of
from tailheard.chains import Chain
from tailheard.columns import Column
from tailheard.crossingpairs import CrossingPair
from tailheard.crossings import Crossing
from tailheard.errors import BadSign
from tailheard.feet import Tune
from tailheard.gaps import Gaps, judge_gaps
from tailheard.heard import is_heard
from tailheard.house import House
from tailheard.journal import read_journal, taken_up, write_journal
from tailheard.kept import Kept, judge_kept
from tailheard.late import Late
from tailheard.leancrossings import lean
from tailheard.leastdrills import least_make
from tailheard.leastrules import least_rules
from tailheard.lengths import Lengths
from tailheard.makes import Make
from tailheard.obstacles import Obstacle
from tailheard.orders import KeepsOrder, least_spacing, spaced_streams
from tailheard.outplans import out_plan
from tailheard.paces import Pace
from tailheard.planpairs import PlanPair
from tailheard.plans import Plan, least_plan
from tailheard.plantext import read_plan
from tailheard.programs import Program
from tailheard.rehearsals import rehearsed, Rehearsal
from tailheard.runs import Run
from tailheard.sketches import ToldDrill, fits
from tailheard.steps import InStep, worst
from tailheard.talks import Talk
from tailheard.through import Through, judge_through
from tailheard.toldcallings import ToldCalling
from tailheard.waits import spaced_plan

TWICE = ((0, 2, (0, 1, 0)), (1, 2, (2, 1, 0)), (1, 2, (1, 2, 0)))
MAKE = Make("ab", [("A", 1, TWICE), ("B", 2, STRETCH)], 5)
SCRIPT = [("say", "a"), ("wait", "x"), ("say", "b"), ("repeat", "y", [("wait", 2), ("say", "a"), ("say", "b")])]
PLUS = Crossing(3, [(0, 1), (2, 1)], [(1, 0, "#?#", (0, 1), 1), (1, 1, "#?#", (1, 1), 0), (0, 3, "???", None, 3)])
LOOKS = ["rww", "xy"]


def furnished():
    house = House()
    house.keep("make", MAKE)
    house.keep("calls", Program("ab", SCRIPT))
    house.keep("columns", read_plan("A(A|B)*"))
    house.keep("wrong", read_plan("a"))
    house.keep("square", PLUS)
    house.strike("wrong")
    return house


class ProgramTest(unittest.TestCase):
    def test_called_and_told_back(self):
        house = read_journal(write_journal(furnished()))
        make, program = house["make"], house["calls"]
        plan = plan_of(program)
        for values in ({"x": 0, "y": 1}, {"x": 3, "y": 0}, {"x": 1, "y": 2}):
            calling = calling_of(program, values)
            self.assertIn(calling, plan)
            column = Column(make, "AAB")
            run = Run(column, calling, 40)
            talk = Talk(column, calling, "", beats=40)
            self.assertEqual(list(run), list(talk))
            self.assertEqual([run.gaps_at(beat) for beat in range(41)], [talk.gaps_at(beat) for beat in range(41)])
            self.assertEqual([run.gaps_at(beat)[0] for beat in range(len(calling) + 1)],
                             gap_row(make, "A", "A", calling))
            seen = "".join(LOOKS[0][row[0]] for row in list(run)[1:len(calling) + 1])
            told = ToldCalling(make, LOOKS, "A", plan, seen)
            self.assertIn(calling, told)
            self.assertTrue(all(is_heard(plan, text) for text in told.each_fit()))
            self.assertEqual(len(list(told.each_fit())), told.number)
            drill = ToldDrill("ab", [(calling, seen)])
            self.assertTrue(drill.fewest is not None and fits("ab", drill.sketch, [(calling, seen)]))

    def test_kept_for_all_values_as_under_its_plan(self):
        program = Program("ab", SCRIPT)
        for wish in ((0, 40), (4, 6), (5, 5)):
            kept = Kept(MAKE, read_plan("AA"), plan_of(program), wish)
            told = AllValues(MAKE, "A", "A", program, wish)
            self.assertEqual(bool(told), bool(kept))

    def test_rehearsed_as_it_runs(self):
        column = Column(MAKE, "ABA")
        calling = calling_of(Program("ab", SCRIPT), {"x": 2, "y": 1})
        told = rehearsed(Rehearsal(column), [("call", calling), ("settle",)])
        run = Run(column, calling)
        self.assertEqual(told, (run.gaps_at(len(calling)), run.gaps_at(run.beats)))


class HouseTest(unittest.TestCase):
    def test_all_answers_as_before(self):
        house = furnished()
        back, taken = taken_up(write_journal(house) + ("make late",))
        self.assertEqual((back, taken), (house, len(write_journal(house))))
        calls = plan_of(back["calls"])
        for wish in ((0, 20), (5, 6)):
            kept = [Kept(each["make"], each["columns"], calls, wish) for each in (house, back)]
            self.assertEqual((kept[0].table, kept[0].breach), (kept[1].table, kept[1].breach))
            if kept[0]:
                self.assertIsNone(judge_kept(back["make"], house["columns"], calls, wish, kept[1].table))
        self.assertTrue(PlanPair(house["columns"], back["columns"]))
        self.assertEqual(Lengths(back["make"], back["columns"]).first, Lengths(MAKE, house["columns"]).first)
        told = Through(back["square"])
        self.assertEqual((bool(told), told.table), (True, Through(PLUS).table))
        self.assertIsNone(judge_through(PLUS, told.table))
        slim = lean(back["square"])
        self.assertEqual(len(slim), 2)
        self.assertTrue(CrossingPair(slim, house["square"]))
        self.assertEqual(least_rules(Crossing(3, slim.ways), slim.rules), ((0, 1),))

    def test_a_house_of_lean_things(self):
        house = House()
        house.keep("make", least_make(MAKE))
        house.keep("square", lean(PLUS))
        house.keep("plan", least_plan(furnished()["columns"]))
        self.assertEqual(read_journal(write_journal(house)), house)
        self.assertLess(len(write_journal(house)), len(write_journal(furnished())))


class StreamTest(unittest.TestCase):
    def test_order_kept_and_what_comes_out(self):
        obstacle = Obstacle.plain("AB", "B", (1, 3))
        spacing = least_spacing(obstacle)
        plan = spaced_streams("AB", spacing)
        self.assertEqual(spacing, 2)
        self.assertTrue(KeepsOrder(obstacle, plan))
        chain = Chain([obstacle])
        told = out_plan(chain, plan)
        for text in plan.strings(7):
            out = chain(text)
            self.assertIn(out, told)
            # The groups come out in the order in which they went in.
            self.assertTrue(text.replace(".", "").startswith(out.replace(".", "")))
        # So what comes out can go on to another obstacle, and what comes out of both is what comes out of the chain.
        both = chain * 2
        self.assertEqual(out_plan(both, plan), out_plan(chain, told))
        for text in plan.strings(6):
            self.assertEqual(both(text), chain(chain(text)))

    def test_late_chains_let_out_what_went_in(self):
        chain = Chain([Obstacle.plain("AB", "B", (1, 2)), Obstacle.plain("AB", "A", (1, 2))])
        plan = read_plan("(A..|B..)*")
        self.assertTrue(Late(chain, plan, 3))
        late = Plan([[(".", 1)], [(".", 2)], [(".", 3)], *[[(sign, onto + 3) for sign, onto in row]
                                                        for row in plan.states]])
        # Behind a stream that has ended come silences, and each beginning comes out, too.
        told = out_plan(chain, plan)
        for text in late.strings(8):
            self.assertIn(text, told)


class LeastMakeTest(unittest.TestCase):
    def test_gaps_lengths_paces_and_wishes(self):
        least = least_make(MAKE)
        self.assertEqual(least["A"].standings, WALK)
        self.assertLess(len(least["A"]), len(MAKE["A"]))
        for calls in (spaced_plan("ab", 1), read_plan("(a.*b)*")):
            columns = read_plan("A(A|B)*")
            for wish in ((0, 12), (5, 5)):
                one, two = (Kept(make, columns, calls, wish) for make in (MAKE, least))
                self.assertEqual((bool(one), one.breach), (bool(two), two.breach))
            for ahead, behind in ("AA", "AB", "BA", "BB"):
                one, two = (Gaps(make, ahead, behind, calls) for make in (MAKE, least))
                self.assertEqual((one.least, one.greatest), (two.least, two.greatest))
                self.assertIsNone(judge_gaps(least, ahead, behind, calls, two.table))
            self.assertEqual(Pace(MAKE, "A", calls).pace, Pace(least, "A", calls).pace)
            self.assertEqual(Lengths(MAKE, columns).period, Lengths(least, columns).period)

    def test_feet_hang_on_bodies_at_rest_alone(self):
        rng = seeded(571)
        for _ in range(20):
            make = random_make(rng, kinds=2)
            plan = random_plan(rng, make.all_names, most=2, share=0.7)
            tunes = [Tune(each, make.all_names[:1], 3, 10, 12, True) for each in (make, least_make(make))]
            self.assertEqual(worst(tunes[0], plan), worst(tunes[1], plan))
            steps = [InStep(tune, plan, 4) for tune in tunes]
            self.assertEqual((steps[0].table, steps[0].column), (steps[1].table, steps[1].column))


class OverAllTest(unittest.TestCase):
    def test_plans_with_wrong_signs_are_told_wherever_they_are_passed(self):
        wrong = Plan([[("Q", 0), ("q", 0)]])
        obstacle, tune = Obstacle.plain("AB", "B", (1, 3)), Tune(MAKE, "A", 1, 10, 9)
        for call in (lambda: KeepsOrder(obstacle, wrong), lambda: out_plan(Chain([obstacle]), wrong),
                     lambda: Late(Chain([obstacle]), wrong, 99), lambda: InStep(tune, wrong, 99),
                     lambda: ToldCalling(MAKE, LOOKS, "A", wrong, None), lambda: Kept(MAKE, wrong, wrong, None)):
            self.assertEqual(raised(BadSign, call).sign, "Q")


if __name__ == "__main__":
    unittest.main()
