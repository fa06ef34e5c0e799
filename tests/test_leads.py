"""[19] goals, leads, joints, the least lead or the table of joints, when a table is closed."""

import unittest

from helpers import FREE, WALK, all_texts, gap_behind, gap_row, raised, random_make, random_plan, seeded, walkers
from tailheard.drills import Drill
from tailheard.errors import BadGoal, BadSign, BadWish, TooMany
from tailheard.heard import neighbours
from tailheard.leads import Lead, judge_leads
from tailheard.makes import Make
from tailheard.plans import Plan
from tailheard.plantext import read_plan

ANY = Plan([[("A", 0)]])
STILL = ((0, 1, (0, 0, 0)),)
# A goal that nobody can come to: silence keeps the standing 1, but nothing leads to it.
AWAY = ((0, 1, (0, 0, 0)), (0, 1, (1, 1, 1)))


def crowded(more):
    """A make, a wish and a goal with 800 joints, or 801, and no lead."""
    if more:
        kinds = [("A", 2, ((0, 1, (0, 1, 1)), (1, 1, (1, 0, 0)))), ("B", 1, STILL), ("C", 1, AWAY)]
        return Make("ab", kinds, 0), (0, 45), (0, 0, 1)
    kinds = [("A", 2, ((0, 1, (0, 1, 0)), (1, 1, (0, 1, 1)))), ("B", 1, STILL), ("C", 1, AWAY),
             ("D", 1, ((0, 1, (0, 0, 1)), (0, 1, (1, 1, 0))))]
    return Make("ab", kinds, 0), (0, 40), (0, 0, 1, 0)


def leads(make, columns, wish, goal, text):
    """Whether a calling is a lead, told by the gaps of neighbours under it and much silence."""
    names = sorted({name for groups in columns.strings(6) for name in groups})
    for name in names:
        if Drill(make.words, make[name].standings)(0, text) != goal[make.all_names.index(name)]:
            return False
    for pair in neighbours(make, columns):
        if not all(wish[0] <= gap <= wish[1] for gap in gap_row(make, *pair, text + "." * 75)):
            return False
    return True


def joint_of(make, columns, text):
    names = sorted({name for groups in columns.strings(6) for name in groups})
    rows = []
    for pair in neighbours(make, columns):
        gap, first, second = gap_behind(make, *pair, text)
        lag = make.lag_of(pair[0])
        rows.append((second, ("." * lag + text)[-lag:], gap))
    return (tuple(make[name](0, text) for name in names), tuple(rows))


class LeadTest(unittest.TestCase):
    def test_the_empty_calling(self):
        told = Lead(walkers(), ANY, (1, 1), (0,))
        self.assertIs(bool(told), True)
        self.assertEqual((told.calling, told.table, len(told), list(told)), ("", None, 0, []))

    def test_a_word(self):
        told = Lead(walkers(), ANY, (1, 2), [1])
        self.assertEqual((bool(told), told.calling), (True, "a"))
        # The gap grows behind each group before the next one sets off.
        table = Lead(walkers(), ANY, (0, 1), (1,))
        self.assertEqual((bool(table), table.calling), (False, None))
        self.assertEqual(table.table, (((0,), ((0, ".", 1),)), ((0,), ((0, "b", 1),))))
        self.assertEqual((len(table), list(table)), (2, list(table.table)))
        self.assertIsNone(judge_leads(walkers(), ANY, (0, 1), (1,), table.table))

    def test_silence_behind_the_calling_counts(self):
        # The head comes to the goal at once, but the gap behind it goes on to grow until the one behind has heard it.
        make = Make("a", [("A", 3, ((0, 2, (0, 1)), (1, 2, (1, 1))))], 0)
        self.assertEqual(Lead(make, ANY, (0, 3), (1,)).calling, "a")
        self.assertFalse(Lead(make, ANY, (0, 2), (1,)))
        # Two kinds that walk on for ever, unlike one another.
        two = Make("a", [("A", 1, ((0, 1, (0, 1)), (1, 1, (1, 1)))), ("B", 1, ((0, 1, (0, 1)), (2, 1, (1, 1))))], 9)
        self.assertFalse(Lead(two, Plan.bearing(["AB"]), (0, 60), (1, 1)))
        self.assertFalse(Lead(two, Plan.bearing(["BA"]), (0, 60), (1, 1)))
        self.assertEqual(Lead(two, Plan.bearing(["A", "BB"]), (0, 60), (1, 1)).calling, "a")

    def test_goals_that_silence_does_not_keep(self):
        rows = ((0, 1, (0, 1, 2)), (1, 1, (2, 1, 1)), (0, 1, (2, 2, 2)))
        make = Make("ab", [("B", 1, rows), ("A", 1, WALK)])
        columns = Plan.bearing(["A", "B"])
        self.assertEqual(raised(BadGoal, Lead, make, columns, (0, 60), (0, 1)).number, 1)
        self.assertEqual(Lead(make, columns, (0, 60), (0, 2)).calling, "b")
        self.assertEqual(Lead(make, columns, (0, 60), (1, 2)).calling, "a.")
        for goal, number in (((0,), -1), ((0, 0, 0), -1), (None, -1), ("00", -1), (0, -1), ({0: 0, 1: 0}, -1),
                             ((2, 0), 0), ((-1, 0), 0), ((True, 0), 0), ((0, False), 1), ((0, "0"), 1), ((0, None), 1),
                             ((2, 1), 0), ([0, 3], 1), ((0, 1.0), 1)):
            self.assertEqual(raised(BadGoal, Lead, make, columns, (0, 60), goal).number, number, goal)
            self.assertEqual(raised(BadGoal, judge_leads, make, columns, (0, 60), goal, ()).number, number)

    def test_kinds_without_groups(self):
        make = Make("ab", [("A", 1, WALK), ("B", 1, AWAY)])
        # Nothing leads B to its goal, but no column has a B; its goal must still be one.
        self.assertEqual(Lead(make, ANY, (0, 9), (1, 1)).calling, "a")
        self.assertEqual(raised(BadGoal, Lead, make, ANY, (0, 9), (1, 2)).number, 1)
        told = Lead(make, Plan.bearing(["A", "B"]), (0, 9), (1, 1))
        self.assertEqual(told.table, (((0, 0), ()), ((1, 0), ())))
        # A state out of reach has no columns.
        self.assertEqual(Lead(make, Plan([[("A", 0)], [("B", 0)]]), (0, 9), (1, 1)).calling, "a")
        empty = Lead(make, Plan([[]]), (0, 9), (1, 1))
        self.assertEqual((bool(empty), empty.calling), (True, ""))

    def test_a_seat_that_breaks_the_wish(self):
        make = Make("ab", [("A", 1, WALK)], 5)
        told = Lead(make, ANY, (0, 4), (0,))
        self.assertIs(bool(told), False)
        self.assertEqual((told.calling, told.table, len(told), list(told)), (None, (), 0, []))
        for table in ((), None, (None,), 5, [((0,), ((0, ".", 5),))]):
            self.assertIsNone(judge_leads(make, ANY, (0, 4), (0,), table))
        self.assertTrue(Lead(make, Plan.bearing(["A"]), (0, 4), (0,)))

    def test_against_plain_lookers(self):
        rng = seeded(111)
        verdicts = [0, 0]
        for _ in range(150):
            make = random_make(rng, stride=1)
            columns = random_plan(rng, make.all_names)
            wish = (0, rng.randint(3, 9))
            goal = tuple(rng.choice([at for at, row in enumerate(make[name]) if row[2][0] == at]) for name in make)
            try:
                told = Lead(make, columns, wish, goal)
            except TooMany:
                continue
            verdicts[bool(told)] += 1
            if told:
                self.assertTrue(leads(make, columns, wish, goal, told.calling))
                for text in all_texts(".ab", 4):
                    if (len(text), text) < (len(told.calling), told.calling):
                        self.assertFalse(leads(make, columns, wish, goal, text))
                continue
            self.assertIsNone(judge_leads(make, columns, wish, goal, told.table))
            self.assertFalse([text for text in all_texts(".ab", 3) if leads(make, columns, wish, goal, text)])
            listed = {}
            for text in all_texts(".ab", 4):
                gaps = [gap for pair in neighbours(make, columns) for gap in gap_row(make, *pair, text)]
                if all(wish[0] <= gap <= wish[1] for gap in gaps):
                    listed.setdefault(joint_of(make, columns, text), text)
            self.assertEqual(told.table[:len(listed)], tuple(listed))
        self.assertGreater(min(verdicts), 20)

    def test_many_joints(self):
        make, wish, goal = crowded(0)
        columns = Plan.bearing(["AB", "C", "D"])
        told = Lead(make, columns, wish, goal)
        self.assertEqual((bool(told), len(told)), (False, 800))
        self.assertIsNone(judge_leads(make, columns, wish, goal, told.table))
        make, wish, goal = crowded(1)
        self.assertEqual(raised(TooMany, Lead, make, Plan.bearing(["AB", "C"]), wish, goal).word, "joint")
        self.assertEqual(judge_leads(make, Plan.bearing(["AB", "C"]), wish, goal, ()), -1)

    def test_joints_ahead_of_a_lead(self):
        # Each word turns one kind by one standing; all joints are listed behind one another.
        kinds = [(name, 1, tuple((0, 1, tuple((at + (word == own)) % 6 for word in ".abcd")) for at in range(6)))
                 for name, own in zip("ABCD", "abcd")]
        make = Make("abcd", kinds)
        columns = Plan.bearing(["A", "B", "C", "D"])
        queue = [(0, 0, 0, 0)]
        for here in queue:
            for at in range(4):
                onto = tuple((one + (at == own)) % 6 for own, one in enumerate(here))
                if onto not in queue:
                    queue.append(onto)
        self.assertEqual(Lead(make, columns, (0, 60), queue[800]).calling.count("a"), queue[800][0])
        self.assertEqual(raised(TooMany, Lead, make, columns, (0, 60), queue[801]).word, "joint")

    def test_errors(self):
        make = walkers()
        for call in (Lead, lambda *things: judge_leads(*things, ())):
            self.assertEqual(raised(BadSign, call, make, FREE, None, None).sign, ".")
            self.assertEqual(raised(BadWish, call, make, ANY, (2, 1), None).wish, (2, 1))
            self.assertEqual(raised(BadGoal, call, make, ANY, (1, 2), None).number, -1)


class JudgeTest(unittest.TestCase):
    make = Make("ab", [("A", 1, WALK), ("B", 1, STILL)])
    columns = read_plan("A+|AB?")
    wish = (0, 3)
    goal = (1, 0)
    table = Lead(make, columns, wish, goal).table

    def judge(self, *rows):
        return judge_leads(self.make, self.columns, self.wish, self.goal, rows)

    def test_right(self):
        self.assertGreater(len(self.table), 5)
        self.assertIsNone(self.judge(*self.table))
        self.assertIsNone(self.judge(*reversed(self.table)))
        self.assertIsNone(self.judge(*self.table, *self.table))
        self.assertIsNone(judge_leads(self.make, self.columns, list(self.wish), [1, 0],
                                      [[list(row[0]), [list(triple) for triple in row[1]]] for row in self.table]))

    def test_a_row_less(self):
        for at in range(len(self.table)):
            rows = self.table[:at] + self.table[at + 1:]
            found = self.judge(*rows)
            self.assertEqual(found == -1, at == 0)
            if at:
                lacking = [number for number, row in enumerate(rows) if self.leads_to(row, self.table[at])]
                self.assertEqual(found, lacking[0])

    def leads_to(self, row, goal):
        for place, sign in enumerate(".ab"):
            onto = tuple(drill[standing][2][place] for drill, standing in zip((WALK, STILL), row[0]))
            rows = []
            for behind, triple in zip((WALK, STILL), row[1]):
                second = behind[triple[0]][2][".ab".index(triple[1])]
                rows.append((second, sign, triple[2] + WALK[onto[0]][0] - behind[second][0]))
            if (onto, tuple(rows)) == goal:
                return True
        return False

    def test_wish_and_goal(self):
        many = len(self.table)
        first = self.table[0]
        self.assertEqual(self.judge(*self.table, (first[0], (first[1][0], (0, ".", 4)))), many)
        self.assertEqual(self.judge(*self.table, (first[0], (first[1][0], (0, ".", -1)))), many)
        # Settled: both walk alike from now on.
        alone = Plan.bearing(["AA"])
        settled = ((1,), ((1, ".", 2),))
        table = Lead(self.make, alone, (0, 1), (1, 0)).table
        self.assertIsNone(judge_leads(self.make, alone, (0, 1), (1, 0), table))
        self.assertEqual(judge_leads(self.make, alone, (0, 1), (1, 0), (*table, ((1,), ((1, ".", 1),)))), len(table))
        self.assertEqual(judge_leads(self.make, alone, (0, 1), (1, 0), (*table, settled)), len(table))
        # Not settled, as the gap grows under silence: all joints behind it that keep the wish must be there.
        grows = ((1,), ((0, ".", 1),))
        self.assertIsNone(judge_leads(self.make, alone, (1, 1), (1, 0), (*table, grows)))
        self.assertEqual(judge_leads(self.make, alone, (0, 2), (1, 0), (*table, grows)), 0)

    def test_settled_rows(self):
        # All joints that keep the wish are there; the first one that is settled for another goal is not right.
        make = Make("ab", [("A", 1, WALK), ("B", 1, AWAY)])
        table = Lead(make, self.columns, (0, 3), (1, 1)).table
        self.assertIsNone(judge_leads(make, self.columns, (0, 3), (1, 1), table))
        told = Lead(make, read_plan("AA"), (0, 3), (1, 1))
        self.assertEqual(told.calling, "a")
        alone = Make("ab", [("A", 1, ((0, 2, (0, 1, 0)), (1, 2, (1, 1, 0)), (0, 2, (2, 2, 2))))])
        table = Lead(alone, ANY, (0, 3), (2,)).table
        self.assertIsNone(judge_leads(alone, ANY, (0, 3), (2,), table))
        lead = ((1,), ((0, "a", 2),))
        self.assertEqual(Lead(alone, ANY, (0, 3), (1,)).calling, "a")
        self.assertEqual(judge_leads(alone, ANY, (0, 3), (1,), table), table.index(lead))
        self.assertEqual(judge_leads(alone, ANY, (0, 3), (0,), table), 0)

    def test_rows_without_the_form(self):
        good = self.table[3]
        for row in (None, 0, (), good[:1], (*good, ()), (good[0], good[1][:1]), ((0,), good[1]), ((0, 0, 0), good[1]),
                    ((True, 0), good[1]), ((0, 1), good[1]), ((2, 0), good[1]), ((0, -1), good[1]),
                    (good[0], (good[1][0], None)), (good[0], (good[1][0], (0, "."))),
                    (good[0], (good[1][0], (0, ".", 1, 1))), (good[0], (good[1][0], (1, ".", 1))),
                    (good[0], ((2, ".", 1), good[1][1])), (good[0], (good[1][0], (False, ".", 1))),
                    (good[0], (good[1][0], (0, "", 1))), (good[0], (good[1][0], (0, "..", 1))),
                    (good[0], (good[1][0], (0, "c", 1))), (good[0], (good[1][0], (0, ".", None))),
                    (good[0], (good[1][0], (0, ".", True))), (good[0], (good[1][0], (0, None, 1))), "ab", {},
                    ({}, good[1]), (good[0], {}), (good[0], (good[1][0], {}))):
            self.assertEqual(self.judge(*self.table, row), len(self.table), row)

    def test_the_beginning(self):
        for table in (None, 0, (), self.table[1:], "a", (None,), {}):
            self.assertEqual(judge_leads(self.make, self.columns, self.wish, self.goal, table), -1)
        self.assertEqual(self.judge(None, *self.table), 0)


if __name__ == "__main__":
    unittest.main()
