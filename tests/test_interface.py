"""The names, arguments and methods that the interface lists for the modules that have been built."""

import ast
import inspect
import importlib
import pathlib
import unittest

ROOT = pathlib.Path(__file__).resolve().parent.parent

# Each row: module, name, parameters, methods with their parameters (properties without), defined in the class itself.
TOLD = """
drills Drill(words, standings)
    __len__(self) __getitem__(self, standing) __iter__(self) __eq__(self, other) __call__(self, standing, calling)
    walk(self, standing, calling) is_steady
makes Make(words, kinds, space=1, seats=())
    all_names __getitem__(self, name) __contains__(self, name) __len__(self) __iter__(self) __eq__(self, other)
    lag_of(self, name) seat_of(self, ahead, behind) reseated(self, seats)
columns Column(make, groups)
    delay_row front_row rest_length pairs __len__(self) __getitem__(self, number) __iter__(self) __eq__(self, other)
    __add__(self, other)
runs Run(column, calling, beats=None)
    standings_at(self, beat) fronts_at(self, beat) gaps_at(self, beat) length_at(self, beat) __len__(self)
    __iter__(self) first_breach(self, wish)
plans Plan(states, ends=None)
    __contains__(self, text) __call__(self, state, sign) strings(self, most) __len__(self) __iter__(self)
    __eq__(self, other) least_text __or__(self, other) __and__(self, other) bearing(strings)
plans least_plan(plan)
heard steps(plan, state)
heard is_heard(plan, text)
heard hearing_states(plan, text)
heard neighbours(make, plan)
plantext read_plan(text)
planpairs PlanPair(first, second)
    __bool__(self) __len__(self) __iter__(self)
planpairs judge_plans(first, second, table)
lengths Lengths(make, plan)
    __contains__(self, length) column_of(self, length)
makelines write_make(make)
makelines read_make(words, space, lines)
planlines write_plan(plan)
planlines read_plan_lines(ends, lines)
betweens Betweens(make, ahead, behind, calls)
    __len__(self) __iter__(self) __contains__(self, between) __getitem__(self, between) onward(self, between)
gaps Gaps(make, ahead, behind, calls)
    __len__(self) __iter__(self) bounds(self, between)
gaps judge_gaps(make, ahead, behind, calls, table)
kept Kept(make, columns, calls, wish)
    __bool__(self) __len__(self) __iter__(self)
kept judge_kept(make, columns, calls, wish, table)
parted Parted(make, name, calls)
    __bool__(self) __len__(self) __iter__(self)
parted judge_parted(make, name, calls, table)
needs need(make, ahead, behind, calls, least)
needs seated(make, columns, calls, least)
seating Seating(make, calls, least, groups)
    __len__(self) __iter__(self)
seating judge_seating(make, calls, least, groups, table)
waits spaced_plan(words, wait)
waits Waits(make, columns, words, wish)
    __len__(self) __iter__(self)
barred barred_plan(plan, lot)
barred Barred(make, columns, calls, wish)
    __len__(self) __iter__(self) cures(self, lot) breach_of(self, lot)
leads Lead(make, columns, wish, goal)
    __bool__(self) __len__(self) __iter__(self)
leads judge_leads(make, columns, wish, goal, table)
files File(make, head, part, tail)
    __eq__(self, other) column_of(self, n) delay_of(self, n) length_of(self, n)
rises Rises(make, name, calls, *, falls=False)
    __len__(self) __iter__(self) rise(self, node, beats) gain(self, node)
rises judge_rises(make, name, calls, lag, period, table, *, falls=False)
stretches Stretch(file, calls, *, least=False)
    __call__(self, n) example(self, n) growth
paces Pace(make, name, calls)
paces judge_potentials(make, name, calls, pace, potentials)
talks Talk(column, down, up, *, down_at=1, up_at=1, beats=None)
    standings_at(self, beat) fronts_at(self, beat) gaps_at(self, beat) length_at(self, beat) __len__(self)
    __iter__(self) first_breach(self, wish) heard(self, number, beat)
meetings meeting(column, down_at, up_at)
meetings up_delays(column)
clashes clashes(drill)
clashes shuffles(first, second)
clashes shuffle_ends(drill, standing, first, second)
clashes border_row(drill, standing, words, word)
doubles Doubles(make, ahead, behind, downs, ups)
    __len__(self) __iter__(self) __contains__(self, double) onward(self, double)
agree Agree(make, name, downs, ups)
    __bool__(self) __len__(self) __iter__(self)
agree judge_agree(make, name, downs, ups, table)
twogaps TwoGaps(make, ahead, behind, downs, ups)
    __len__(self) __iter__(self)
twogaps judge_two_gaps(make, ahead, behind, downs, ups, table)
programs Program(words, script)
    variables __len__(self) __eq__(self, other) statements(self)
scriptlines write_script(program)
scriptlines read_script(words, lines)
callings calling_of(program, values, delay=0)
callings plan_of(program)
allvalues value_kinds(make, ahead, behind, program, wish)
allvalues AllValues(make, ahead, behind, program, wish)
    __bool__(self) __len__(self) __iter__(self) outcome(self, values)
allnumbers AllNumbers(make, name, program, wish)
    __bool__(self) __len__(self) __iter__(self) outcome(self, n)
effects Effects(make, name, first, second)
    __bool__(self) __len__(self) __iter__(self)
rehearsals Rehearsal(column)
    moment standings_now(self) fronts_now(self) gaps_now(self) call(self, calling) pause(self, beats) settle(self)
    copy(self) __eq__(self, other)
rehearsals Trial(rehearsal)
    __enter__(self) __exit__(self, kind, value, trace)
rehearsals rehearsed(rehearsal, deeds)
crossings Crossing(places, ways, rules=())
    beginning all_offers __len__(self) __iter__(self) __eq__(self, other) beat(self, situation, offer)
    rests(self, situation, offer) run(self, offers) __add__(self, other) without(self, number) situations(self)
through Through(crossing)
    __bool__(self) __len__(self) __iter__(self)
through judge_through(crossing, table)
crossingpairs CrossingPair(first, second)
    __bool__(self) __len__(self) __iter__(self)
crossingpairs judge_crossings(first, second, table)
leancrossings needless(crossing)
leancrossings lean(crossing)
leastrules least_rules(crossing, menu)
crossinglines write_crossing(crossing)
crossinglines read_crossing(places, lines)
obstacles Obstacle(names, table, delays, first=0)
    beginning plain(names, part, delays, first=0) beat(self, inside, sign) __call__(self, stream) __eq__(self, other)
chains Chain(obstacles)
    __call__(self, stream) __add__(self, other) __mul__(self, times) __len__(self) __iter__(self)
    __eq__(self, other)
orders KeepsOrder(obstacle, plan)
    __bool__(self) __len__(self) __iter__(self)
orders judge_order(obstacle, plan, table)
orders spaced_streams(names, spacing)
orders least_spacing(obstacle)
outplans out_plan(chain, plan)
late Late(chain, plan, beats)
    __bool__(self) __len__(self) __iter__(self)
late judge_late(chain, plan, beats, table)
late undoers(obstacle, plan, most, beats)
feet Tune(make, bands, slow, cycle, earshot, relay=False)
    earshot feet(self, column) apart(cycle, first, second) __eq__(self, other)
feet feet_at(tune, column, earshots)
steps InStep(tune, plan, within)
    __bool__(self) __len__(self) __iter__(self)
steps judge_step(tune, plan, within, table)
steps worst(tune, plan)
steps spread(tune, plan)
bandings fewest_bands(column, slow, cycle, earshot, relay, within)
watch Watch(make, looks, ahead, behind, calls, seen)
    __bool__(self) __len__(self) __iter__(self) after(self, sights)
watch judge_watch(make, looks, ahead, behind, calls, seen, table)
toldcallings ToldCalling(make, looks, name, calls, sights)
    __contains__(self, text) each_fit(self)
sketches fits(words, sketch, samples)
sketches ToldDrill(words, samples)
    sure_looks(self, calling)
leastdrills least_drill(drill)
leastdrills least_make(make)
leastdrills DrillPair(first, second)
    __bool__(self) __len__(self) __iter__(self)
leastdrills judge_drills(first, second, table)
house House()
    keep(self, name, thing) strike(self, name) __getitem__(self, name) __contains__(self, name) __len__(self)
    __iter__(self) deeds copy(self) __eq__(self, other)
journal write_journal(house)
journal read_journal(lines)
journal taken_up(lines)
"""


def members(line):
    """The members of a line: names, with their parameters in brackets if they have some."""
    found = []
    depth = 0
    word = ""
    for letter in line.strip() + " ":
        depth += (letter == "(") - (letter == ")")
        if letter == " " and depth == 0:
            found += [word] if word else []
            word = ""
        else:
            word += letter
    return found


class InterfaceTest(unittest.TestCase):
    def test_all_is_there(self):
        owner = None
        for line in TOLD.strip().split("\n"):
            if line.startswith(" "):
                for member in members(line):
                    self.judge_member(owner, member)
                continue
            stem, told = line.split(" ", 1)
            name = told.split("(")[0]
            module = importlib.import_module(f"tailheard.{stem}")
            owner = getattr(module, name)
            self.assertEqual(f"{name}{inspect.signature(owner)}", told)
            text = (ROOT / "tailheard" / f"{stem}.py").read_text()
            defined = [node.name for node in ast.parse(text).body if isinstance(node, (ast.ClassDef, ast.FunctionDef))]
            self.assertIn(name, defined)

    def judge_member(self, owner, member):
        name = member.split("(")[0]
        self.assertIn(name, vars(owner), owner)
        thing = vars(owner)[name]
        if "(" not in member:
            self.assertIsInstance(thing, property)
        elif isinstance(thing, (classmethod, staticmethod)):
            self.assertEqual(f"{name}{inspect.signature(getattr(owner, name))}", member)
        else:
            self.assertEqual(f"{name}{inspect.signature(thing)}", member)

    def test_no_names_in_the_package_itself(self):
        text = (ROOT / "tailheard" / "__init__.py").read_text()
        self.assertFalse([node for node in ast.parse(text).body if not isinstance(node, ast.Expr)])


if __name__ == "__main__":
    unittest.main()
