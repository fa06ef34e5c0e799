"""[51] drills that are one to the eye, the least calling, when a table is closed, least drills and least makes."""

import unittest

from helpers import WALK, all_texts, raised, random_make, random_plan, random_standings, seeded
from tailheard.drills import Drill
from tailheard.errors import Unlike
from tailheard.gaps import Gaps
from tailheard.kept import Kept
from tailheard.leastdrills import DrillPair, judge_drills, least_drill, least_make
from tailheard.lengths import Lengths
from tailheard.makes import Make
from tailheard.needs import need
from tailheard.paces import Pace
from tailheard.runs import Run
from tailheard.columns import Column

ONE = Drill("ab", WALK)
# The walking standing is written twice, and the last one is never reached.
TWICE = Drill("ab", ((0, 2, (0, 1, 0)), (1, 2, (2, 1, 0)), (1, 2, (1, 2, 0)), (3, 9, (0, 1, 2))))


def seen(drill, calling, standing=0):
    """What one sees of a group at each beat, and ahead of the first one."""
    rows = [drill[standing][:2]]
    for sign in calling:
        standing = drill(standing, sign)
        rows.append(drill[standing][:2])
    return rows


def doubled(rng, rows, signs):
    """The standings of a drill, some of them written twice, and one that is never reached; in another order."""
    copies = [(at, each) for at in range(len(rows)) for each in range(rng.choice([1, 1, 2]))][:5]
    known = {at for at, _ in copies}
    if known != set(range(len(rows))):
        return rows
    order = [pair for pair in copies if pair != (0, 0)]
    rng.shuffle(order)
    order = [(0, 0)] + order
    found = []
    for at, each in order:
        nexts = [order.index(rng.choice([pair for pair in order if pair[0] == onto])) for onto in rows[at][2]]
        if (at, each) == (0, 0):
            nexts[0] = 0
        found.append((rows[at][0], rows[at][1], tuple(nexts)))
    found.append((2, 5, tuple(rng.randrange(len(found)) for _ in range(signs))))
    return tuple(found)


class DrillPairTest(unittest.TestCase):
    def test_one_to_the_eye(self):
        told = DrillPair(ONE, TWICE)
        self.assertEqual((bool(told), told.calling), (True, None))
        self.assertEqual(told.table, ((0, 0), (1, 1), (1, 2)))
        self.assertEqual((len(told), list(told)), (3, list(told.table)))
        self.assertEqual(DrillPair(TWICE, ONE).table, ((0, 0), (1, 1), (2, 1)))

    def test_the_least_calling(self):
        for rows, calling in ((((0, 2, (0, 1, 0)), (1, 3, (1, 1, 0))), "a"),
                              (((0, 2, (0, 1, 0)), (2, 2, (1, 1, 0))), "a"),
                              (((0, 2, (0, 1, 0)), (1, 2, (0, 1, 0))), "a."),
                              (((0, 2, (0, 1, 0)), (1, 2, (1, 1, 1))), "ab"),
                              (((0, 1, (0, 1, 0)), (1, 2, (1, 1, 0))), ""),
                              (((0, 2, (0, 0, 0)),), "a")):
            told = DrillPair(ONE, Drill("ab", rows))
            self.assertEqual((bool(told), told.calling, told.table), (False, calling, None))
            self.assertEqual((len(told), list(told)), (0, []))
            self.assertEqual(DrillPair(Drill("ab", rows), ONE).calling, calling)

    def test_as_many_pairs_as_there_can_be(self):
        # One word leads the one drill round, the other word leads the other one.
        first = Drill("ab", [(0, 1, (at, (at + 1) % 6, at)) for at in range(6)])
        second = Drill("ab", [(0, 1, (at, at, (at + 1) % 6)) for at in range(6)])
        told = DrillPair(first, second)
        self.assertEqual((len(told), told.table[:4]), (36, ((0, 0), (1, 0), (0, 1), (2, 0))))

    def test_other_words(self):
        other = Drill("a", ((0, 1, (0, 0)),))
        for call in (DrillPair, lambda *things: judge_drills(*things, None)):
            self.assertEqual(raised(Unlike, call, ONE, other).word, "words")
            self.assertEqual(raised(Unlike, call, other, ONE).word, "words")

    def test_against_a_plain_looker(self):
        rng = seeded(551)
        verdicts = []
        for _ in range(150):
            first = random_standings(rng, 3, most=3)
            second = doubled(rng, first, 3) if rng.random() < 0.6 else random_standings(rng, 3, most=3)
            if rng.random() < 0.2:
                second = second[:-1] + ((second[-1][0], second[-1][1] % 12 + 1, second[-1][2]),)
            one, two = Drill("ab", first), Drill("ab", second)
            told = DrillPair(one, two)
            unlike = [text for text in all_texts(".ab", 5) if seen(one, text) != seen(two, text)]
            verdicts.append(bool(told))
            if unlike:
                self.assertEqual(told.calling, unlike[0])
                continue
            self.assertTrue(told)
            pairs = {}
            for text in all_texts(".ab", 7):
                pairs.setdefault((one(0, text), two(0, text)), text)
            self.assertEqual(told.table, tuple(pairs))
            self.assertIsNone(judge_drills(one, two, told.table))
        self.assertGreater(min(verdicts.count(True), verdicts.count(False)), 30)


class JudgeTest(unittest.TestCase):
    def judge(self, table):
        return judge_drills(TWICE, TWICE, table)

    def test_closed(self):
        table = DrillPair(TWICE, TWICE).table
        self.assertEqual(table, ((0, 0), (1, 1), (2, 2)))
        for whole in (table, table[::-1], table * 2, [list(row) for row in table], table + ((1, 2), (2, 1)),
                      table + ((3, 3),)):
            self.assertIsNone(self.judge(whole))
        for wrong in (table + ((1, 2),), table + ((0, 1),), table + ((3, 0),), table + ((1, 3),)):
            self.assertEqual(self.judge(wrong), 3, wrong)

    def test_unlike_pairs_behind_which_all_is_well(self):
        first = Drill("a", ((0, 1, (0, 1)), (1, 1, (1, 1))))
        for stride, body in ((2, 1), (1, 2)):
            second = Drill("a", ((0, 1, (0, 1)), (stride, body, (1, 1))))
            self.assertEqual(judge_drills(first, second, ((0, 0), (1, 1))), 1)
        self.assertIsNone(judge_drills(first, first, ((0, 0), (1, 1))))

    def test_rows_taken_out(self):
        table = ((0, 0), (1, 1), (2, 2))
        for wrong in ((), table[1:], None, "", 0, ((0, 1),)):
            self.assertEqual(self.judge(wrong), -1)
        self.assertEqual(self.judge(((0, 0), (1, 1))), 1)
        self.assertEqual(self.judge(((0, 0), (2, 2))), 0)
        self.assertEqual(self.judge(((2, 2), (0, 0))), 0)

    def test_forms(self):
        table = DrillPair(TWICE, ONE).table
        for row in (None, (), (0,), (0, 0, 0), (4, 0), (0, 2), (-1, 0), (0, -1), (True, 0), (0, False), "00", ("0", 0),
                    (None, 0)):
            self.assertEqual(judge_drills(TWICE, ONE, (row, *table)), 0, row)
            self.assertEqual(judge_drills(TWICE, ONE, (*table, row)), len(table), row)
            self.assertEqual(judge_drills(TWICE, ONE, (row,)), -1, row)


    def test_rows_that_only_their_form_can_make_wrong(self):
        lone = Drill("a", ((0, 1, (0, 0)),))
        for row in ((-1, 0), (0, -1), (1, 0), (0, 1), (False, 0), (0, False), (0, 0, 0), (0,)):
            self.assertEqual(judge_drills(lone, lone, ((0, 0), row)), 1, row)


class LeastDrillTest(unittest.TestCase):
    def test_least(self):
        self.assertEqual(least_drill(TWICE), ONE)
        self.assertEqual(least_drill(ONE), ONE)
        # Standings are ordered by the least callings: silence ahead of all words.
        mixed = Drill("ab", ((0, 1, (0, 2, 1)), (1, 1, (1, 0, 0)), (2, 1, (2, 0, 0)), (3, 1, (0, 0, 0))))
        self.assertEqual(least_drill(mixed), Drill("ab", ((0, 1, (0, 1, 2)), (2, 1, (1, 0, 0)), (1, 1, (2, 0, 0)))))
        # A standing like rest is rest.
        self.assertEqual(least_drill(Drill("a", ((0, 1, (0, 1)), (0, 1, (1, 0))))), Drill("a", ((0, 1, (0, 0)),)))
        self.assertEqual(len(least_drill(Drill("a", ((0, 1, (0, 1)), (0, 2, (1, 0)))))), 2)

    def test_standings_that_only_long_callings_tell_apart(self):
        drill = Drill("a", [(0, 1 + at // 5, (at, min(at + 1, 5))) for at in range(6)])
        self.assertEqual(least_drill(drill), drill)

    def test_order_of_sign_and_not_of_number(self):
        drill = Drill("ab", ((0, 1, (0, 3, 2)), (1, 1, (0, 0, 0)), (2, 1, (1, 0, 0)), (3, 1, (0, 0, 0))))
        self.assertEqual([row[0] for row in least_drill(drill)], [0, 3, 2, 1])

    def test_against_a_plain_looker(self):
        rng = seeded(552)
        for _ in range(60):
            rows = doubled(rng, random_standings(rng, 3, most=3), 3)
            drill = Drill("ab", rows)
            least = least_drill(drill)
            self.assertTrue(DrillPair(drill, least))
            # Standings of the least drill are reached, in order, and no two of them are one to the eye.
            reached = {}
            for text in all_texts(".ab", 6):
                reached.setdefault(least(0, text), text)
            self.assertEqual(list(reached), list(range(len(least))))
            views = {tuple(tuple(seen(drill, more, standing)) for more in all_texts(".ab", 5))
                     for standing in {drill(0, text) for text in all_texts(".ab", 6)}}
            self.assertEqual(len(least), len(views))
            self.assertEqual(least_drill(least), least)


class LeastMakeTest(unittest.TestCase):
    def test_all_else_as_it_was(self):
        make = Make("ab", [("B", 2, TWICE.standings), ("A", 1, WALK)], 7, [("B", "A", 3), ("A", "A", 0)])
        least = least_make(make)
        self.assertEqual(least, Make("ab", [("B", 2, WALK), ("A", 1, WALK)], 7, [("B", "A", 3), ("A", "A", 0)]))
        self.assertEqual(least_make(least), least)

    def test_gaps_lengths_paces_and_wishes(self):
        rng = seeded(553)
        for _ in range(30):
            make = random_make(rng, kinds=2)
            kinds = [(name, lag, doubled(rng, rows, 3)) for name, lag, rows in make.kinds]
            make = Make(make.words, kinds, make.space, make.seats)
            least, calls = least_make(make), random_plan(rng, ".ab", most=3)
            columns = random_plan(rng, make.all_names, most=2, share=0.7)
            one, two = make.all_names
            gaps = [Gaps(each, one, two, calls) for each in (make, least)]
            self.assertEqual([gaps[0].least, gaps[0].greatest], [gaps[1].least, gaps[1].greatest])
            kept = [Kept(each, columns, calls, (0, 9)) for each in (make, least)]
            self.assertEqual((bool(kept[0]), kept[0].breach), (bool(kept[1]), kept[1].breach))
            self.assertEqual(need(make, one, two, calls, 1), need(least, one, two, calls, 1))
            self.assertEqual(Pace(make, one, calls).pace, Pace(least, one, calls).pace)
            self.assertEqual(
                Lengths(make, columns).first, Lengths(least, columns).first)
            groups = "".join(rng.choice(make.all_names) for _ in range(4))
            runs = [Run(Column(each, groups), "ab.ba.ab") for each in (make, least)]
            for beat in range(len(runs[0])):
                self.assertEqual(runs[0].gaps_at(beat), runs[1].gaps_at(beat))
                self.assertEqual(runs[0].length_at(beat), runs[1].length_at(beat))


if __name__ == "__main__":
    unittest.main()
