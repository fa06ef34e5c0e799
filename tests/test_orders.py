"""[41] overtaking and keeping order, passages, when a table is closed, spaced streams, the least spacing."""

import unittest

from helpers import all_texts, hears, plain_steps, raised, random_obstacle, random_plan, seeded
from tailheard.errors import BadNames, BadSign, BadWait, TooMany
from tailheard.obstacles import Obstacle
from tailheard.orders import KeepsOrder, judge_order, least_spacing, spaced_streams
from tailheard.plans import Plan
from tailheard.plantext import read_plan

SWAP = Obstacle.plain("AB", "B", (1, 3))
FREE = read_plan("(A|B|.)*")
# For numbers of passages, obstacles and plans that have just so many; all but the first keep order.
SIZED = {
    "broken": (("ABC", [((0, 0), (0, 1), (0, 0)), ((0, 1), (0, 2), (0, 2)), ((1, 2), (0, 0), (1, 1))], (4, 2), 0),
               ([[(".", 0), ("A", 0), ("B", 0), ("C", 0)]],)),
    "kept": (("ABC", [((1, 0), (1, 2), (1, 0)), ((1, 1), (0, 0), (0, 3)), ((1, 1), (1, 3), (1, 2)),
                      ((0, 3), (0, 3), (0, 2))], (4, 4), 0),
             ([[(".", 2)], [(".", 1), ("A", 2), ("B", 2), ("C", 1)], [("A", 1), ("C", 0)]], [1, 2])),
    "more": (("ABC", [((0, 1), (1, 2), (1, 1)), ((0, 3), (1, 1), (1, 0)), ((0, 0), (0, 0), (0, 0)),
                      ((0, 0), (1, 3), (1, 3))], (3, 4), 1),
             ([[(".", 3), ("A", 0), ("C", 1)], [(".", 1), ("C", 2)], [(".", 2), ("A", 2), ("B", 1), ("C", 0)],
               [(".", 3), ("B", 3)]],)),
}


def sized(word):
    obstacle, plan = SIZED[word]
    return Obstacle(*obstacle), Plan(*plan)


def overtakes(obstacle, stream):
    """Whether a group that arrives at the last beat of a stream overtakes another one, told group by group."""
    row, groups = 0, []
    for beat, sign in enumerate(stream):
        if sign != ".":
            branch, row = obstacle.table[row][obstacle.names.index(sign)]
            groups.append((beat, beat + obstacle.delays[branch], branch))
    for late, arrival, branch in groups:
        if arrival != len(stream) - 1:
            continue
        for early, other, own in groups:
            if early < late and (arrival < other or arrival == other and branch == obstacle.first and own != branch):
                return True
    return False


def plain_passages(obstacle, plan):
    """The passages in order, and the least stream to each one, told group by group."""
    def behind(passage, sign, onto):
        _, row, zero, one = passage
        branch = None
        if sign != ".":
            branch, row = obstacle.table[row][obstacle.names.index(sign)]
        return (onto, row, zero[1:] + (sign if branch == 0 else "."), one[1:] + (sign if branch == 1 else "."))

    first = (0, 0, "." * obstacle.delays[0], "." * obstacle.delays[1])
    found, layer = {first: ""}, [first]
    while layer:
        fresh = {}
        for passage in layer:
            for sign, onto in plain_steps(plan, passage[0]):
                other = behind(passage, sign, onto)
                if other not in found:
                    fresh[other] = min(fresh.get(other, "~"), found[passage] + sign)
        layer = sorted(fresh, key=lambda passage: (fresh[passage], passage))
        found.update((passage, fresh[passage]) for passage in layer)
    return found


class KeepsOrderTest(unittest.TestCase):
    def test_kept(self):
        told = KeepsOrder(Obstacle.plain("AB", "B", (2, 2)), read_plan("AB"))
        self.assertEqual((bool(told), told.stream), (True, None))
        self.assertEqual(told.table, ((0, 0, "..", ".."), (1, 0, ".A", ".."), (2, 0, "A.", ".B"),
                                      (-1, 0, "..", "B."), (-1, 0, "..", "..")))
        self.assertEqual((len(told), list(told)), (5, list(told.table)))

    def test_broken(self):
        told = KeepsOrder(SWAP, FREE)
        self.assertEqual((bool(told), told.table, len(told), list(told)), (False, None, 0, []))
        self.assertEqual(told.stream, "BA.")
        # At the same beat, the group of the first branch is put ahead of the one that came earlier.
        self.assertEqual(KeepsOrder(SWAP, read_plan("B.A")).stream, "B.A.")
        self.assertTrue(KeepsOrder(Obstacle.plain("AB", "B", (1, 3), 1), read_plan("B.A")))
        self.assertEqual(KeepsOrder(Obstacle.plain("AB", "B", (3, 1), 1), read_plan("A.B")).stream, "A.B.")
        self.assertTrue(KeepsOrder(Obstacle.plain("AB", "B", (3, 1), 0), read_plan("A.B")))

    def test_last_beats(self):
        # What comes behind the last group of a stream that has ended is silence.
        self.assertEqual(KeepsOrder(SWAP, read_plan("BA")).stream, "BA.")
        # Behind what has not ended, something else must come, and the least of that is told.
        self.assertEqual(KeepsOrder(SWAP, Plan([[("B", 1)], [("A", 2)], [("B", 0)]], [0])).stream, "BAB")

    def test_against_a_plain_looker(self):
        rng = seeded(461)
        verdicts = []
        for _ in range(120):
            names = rng.choice(["A", "AB"])
            obstacle, plan = random_obstacle(rng, names, most=3), random_plan(rng, "." + names, most=3, share=0.7)
            told = KeepsOrder(obstacle, plan)
            streams = [text for text in all_texts("." + names, 6) if hears(plan, text)]
            broken = [text for text in streams if overtakes(obstacle, text)]
            verdicts.append(bool(told))
            if broken:
                self.assertEqual(told.stream, broken[0])
            elif told.stream is not None:
                self.assertGreater(len(told.stream), 6)
                self.assertTrue(hears(plan, told.stream) and overtakes(obstacle, told.stream))
            else:
                self.assertEqual(told.table, tuple(plain_passages(obstacle, plan)))
                self.assertIsNone(judge_order(obstacle, plan, told.table))
        self.assertGreater(min(verdicts.count(True), verdicts.count(False)), 15)

    def test_signs(self):
        for call in (KeepsOrder, lambda *things: judge_order(*things, None)):
            self.assertEqual(raised(BadSign, call, SWAP, Plan([[("A", 0), ("C", 0), ("D", 0)]])).sign, "C")
            self.assertEqual(raised(BadSign, call, SWAP, Plan([[("a", 0)]])).sign, "a")

    def test_too_many(self):
        for word, many in (("broken", 700), ("kept", 700), ("more", 701)):
            self.assertEqual(len(plain_passages(*sized(word))), many)
        self.assertEqual(KeepsOrder(*sized("broken")).stream, "BBA..")
        told = KeepsOrder(*sized("kept"))
        self.assertEqual((bool(told), len(told)), (True, 700))
        self.assertIsNone(judge_order(*sized("kept"), told.table))
        self.assertEqual(raised(TooMany, KeepsOrder, *sized("more")).word, "passage")
        table = tuple(plain_passages(*sized("more")))
        self.assertIsNone(judge_order(*sized("more"), table))
        # Whether or not order is kept.
        self.assertEqual(raised(TooMany, KeepsOrder, Obstacle.plain("ABCD", "A", (4, 4)), read_plan(
            "(A|B|C|D|.)*")).word, "passage")
        turning = Obstacle("ABCD", [((0, 1), (1, 1), (0, 1), (1, 1)), ((1, 0), (0, 0), (1, 0), (0, 0))], (3, 4))
        self.assertTrue(overtakes(turning, "BB..."))
        self.assertEqual(raised(TooMany, KeepsOrder, turning, read_plan("(A|B|C|D|.)*")).word, "passage")


class JudgeTest(unittest.TestCase):
    def setUp(self):
        self.obstacle = Obstacle("AB", [((0, 1), (1, 0)), ((1, 0), (0, 1))], (1, 2), 1)
        self.plan = read_plan("(A.|B.?)*")
        self.table = tuple(plain_passages(self.obstacle, self.plan))

    def judge(self, table):
        return judge_order(self.obstacle, self.plan, table)

    def test_closed(self):
        told = KeepsOrder(SWAP, spaced_streams("AB", 2))
        table = told.table
        self.assertTrue(told)
        for whole in (table, table[::-1], table + table, [list(row) for row in table]):
            self.assertIsNone(judge_order(SWAP, spaced_streams("AB", 2), whole))
        for at in range(1, len(table)):
            fewer = table[:at] + table[at + 1:]
            wrong = judge_order(SWAP, spaced_streams("AB", 2), fewer)
            self.assertIn(table[at], behind(SWAP, spaced_streams("AB", 2), fewer[wrong]))
            self.assertFalse([row for row in fewer[:wrong]
                              if table[at] in behind(SWAP, spaced_streams("AB", 2), row)])

    def test_beginning(self):
        for table in ((), self.table[1:], None, "", 0, {}):
            self.assertEqual(self.judge(table), -1)
        self.assertEqual(self.judge(self.table[:1]), 0)

    def test_rows_at_which_one_overtakes(self):
        order = list(plain_passages(SWAP, FREE))
        wrong = judge_order(SWAP, FREE, tuple(order))
        self.assertIsNotNone(wrong)
        first = [at for at, (_, _, zero, one) in enumerate(order) if zero == "A" and one[:2] != ".."]
        self.assertEqual(wrong, first[0])

    def test_groups_of_one_beat(self):
        # In both branches stands a group of one and the same beat: neither overtakes the other.
        plan = Plan([[(".", 0)]])
        even = [(0, 0, "A", "..B"), (0, 0, ".", "...")]
        rows = [(0, 0, ".", ".B."), (0, 0, ".", "B..")]
        ended = [(-1, *row[1:]) for row in even + rows]
        self.assertIsNone(judge_order(SWAP, plan, even + rows + ended))
        for one in (".B.", "B..", "BB.", "B.B"):
            self.assertEqual(judge_order(SWAP, plan, even + rows + ended + [(0, 0, "A", one)]), 8, one)
        last = Obstacle.plain("AB", "B", (1, 3), 1)
        self.assertIsNone(judge_order(last, plan, even + rows + ended + [(0, 0, "A", "B..")]))
        self.assertEqual(judge_order(last, plan, even + rows + ended + [(0, 0, "A", ".B.")]), 8)

    def test_forms(self):
        state, row, zero, one = self.table[0]
        for wrong in (None, (), (state, row, zero), (state, row, zero, one, ""), (-2, row, zero, one),
                      (len(self.plan), row, zero, one), (True, row, zero, one), (state, 2, zero, one),
                      (state, -1, zero, one), (state, False, zero, one), (state, row, "", one), (state, row, "..", one),
                      (state, row, "C", one), (state, row, "a", one), (state, row, None, one), (state, row, zero, "."),
                      (state, row, zero, "..."), (state, row, zero, ".C"), (state, row, (".",), one), "0...",
                      (state, row, zero, (".", "."))):
            self.assertEqual(self.judge((wrong, *self.table)), 0, wrong)
            self.assertEqual(self.judge((wrong,)), -1, wrong)
        # Nothing is wrong with these but their form: silence leads them back to themselves.
        for row in ((-1, -1, zero, one), (-1, 2, zero, one), (-1, True, zero, one)):
            self.assertEqual(self.judge((*self.table, row)), len(self.table), row)


def behind(obstacle, plan, passage):
    """The passages to which the steps of a passage lead."""
    state, row, zero, one = passage
    found = []
    for sign, onto in plain_steps(plan, state):
        branch, further = (None, row) if sign == "." else obstacle.table[row][obstacle.names.index(sign)]
        found.append((onto, further, zero[1:] + (sign if branch == 0 else "."),
                      one[1:] + (sign if branch == 1 else ".")))
    return found


class SpacedTest(unittest.TestCase):
    def test_plans(self):
        self.assertEqual(spaced_streams("AB", 0), Plan([[(".", 0), ("A", 0), ("B", 0)]]))
        self.assertEqual(spaced_streams("AC", 2), Plan([[(".", 0), ("A", 2), ("C", 2)], [(".", 0)], [(".", 1)]]))
        self.assertEqual(len(spaced_streams("ABCD", 6)), 7)

    def test_errors(self):
        for names in ("", "BA", "ABCDE", "ab", None, True):
            self.assertIs(raised(BadNames, spaced_streams, names, None).names, names)
        for spacing in (-1, 7, True, None, "0"):
            self.assertIs(raised(BadWait, spaced_streams, "A", spacing).wait, spacing)

    def test_least_spacing(self):
        self.assertEqual(least_spacing(Obstacle.plain("AB", "B", (2, 2))), 0)
        self.assertEqual(least_spacing(Obstacle.plain("AB", "B", (1, 4))), 3)
        # A group that arrives at the same beat is put behind if its branch is not the first one.
        self.assertEqual(least_spacing(Obstacle.plain("AB", "B", (1, 4), 1)), 2)
        self.assertEqual(least_spacing(Obstacle.plain("AB", "B", (4, 1), 1)), 3)
        self.assertEqual(least_spacing(Obstacle.plain("AB", "", (1, 4))), 0)
        self.assertEqual(least_spacing(Obstacle.plain("AB", "AB", (1, 4))), 0)
        # Branch 0 is taken only behind which nothing goes into branch 1 soon.
        self.assertEqual(least_spacing(Obstacle("A", [((1, 1),), ((1, 2),), ((0, 0),)], (1, 2))), 1)
        self.assertEqual(least_spacing(Obstacle("A", [((0, 1),), ((0, 1),)], (1, 4))), 0)

    def test_least_spacing_against_verdicts(self):
        rng = seeded(462)
        found = {}
        for _ in range(120):
            obstacle = random_obstacle(rng, rng.choice(["A", "AB"]))
            least = least_spacing(obstacle)
            found[least] = True
            for spacing in range(5):
                try:
                    told = KeepsOrder(obstacle, spaced_streams(obstacle.names, spacing))
                except TooMany:
                    continue
                self.assertEqual(bool(told), spacing >= least)
        self.assertEqual(sorted(found), [0, 1, 2, 3])

    def test_no_too_many(self):
        rows = [tuple(((at + number) % 2, (at + number + 1) % 4) for at in range(4)) for number in range(4)]
        for first in (0, 1):
            obstacle = Obstacle("ABCD", rows, (4, 4), first)
            self.assertEqual(raised(TooMany, KeepsOrder, obstacle, spaced_streams("ABCD", 0)).word, "passage")
            self.assertEqual(least_spacing(obstacle), 0)
            self.assertEqual(least_spacing(Obstacle("ABCD", rows, (4, 3), first)), 1 if first else 0)


if __name__ == "__main__":
    unittest.main()
