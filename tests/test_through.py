"""[36] crossings that let through, ranks, the least loop, when a table is right."""

import unittest

from helpers import plain_beat, raised, random_crossing, seeded
from tailheard.crossings import Crossing
from tailheard.errors import TooMany
from tailheard.through import Through, judge_through

STREET = Crossing(3, [(0, 1, 2)])
MEET = Crossing(3, [(0, 1, 2), (2, 1, 0)])
PLUS = Crossing(3, [(0, 1), (2, 1)])
SHUT = Crossing(2, [(0,), (1,)], [(0, 0, "??", None, 0), (1, 0, "??", None, 0)])
SECOND = Crossing(2, [(0,), (1,)], [(1, 0, "??", None, 0)])


def graph_of(crossing):
    """All situations in order, and the triples (offer, situation, resting ways) behind each one."""
    order, beats = [crossing.beginning], {}
    for here in order:
        beats[here] = []
        for offer in sorted(crossing.all_offers):
            onto, _, rests = plain_beat(crossing.places, crossing.ways, crossing.rules, here, offer)
            beats[here].append((offer, onto, rests))
            if onto not in order:
                order.append(onto)
    return order, beats


def least_way(beats, home, goal, way):
    """The least tuple of at least one offer from a situation to another one, at all beats of which a way rests."""
    layer, seen = [((), home)], set()
    while layer:
        further = []
        for offers, here in layer:
            for offer, onto, rests in beats[here]:
                if way is None or way in rests:
                    if onto == goal:
                        return offers + (offer,)
                    if onto not in seen:
                        seen.add(onto)
                        further.append((offers + (offer,), onto))
        layer = further
    return None


class ThroughTest(unittest.TestCase):
    def test_lets_through(self):
        told = Through(STREET)
        self.assertEqual((bool(told), told.breach, len(told)), (True, None, 6))
        self.assertEqual(told.table[0], (STREET.beginning, (0,)))
        self.assertEqual(list(told), list(told.table))
        self.assertEqual(judge_through(STREET, told.table), None)

    def test_ranks(self):
        told = Through(Crossing(1, [(0,)], [(0, 0, "?", None, 1), (0, 1, "?", None, 2), (0, 2, "?", None, 3)]))
        self.assertEqual(dict(told.table)[((), (0,), (0,))], (3,))
        self.assertEqual(dict(told.table)[((), (1,), (1,))], (2,))
        self.assertEqual(dict(told.table)[((), (1,), (3,))], (0,))

    def test_a_way_rests_for_ever(self):
        told = Through(MEET)
        self.assertEqual((bool(told), told.table, len(told), list(told)), (False, None, 0, []))
        self.assertEqual(told.breach, (0, ((".", "g"), ("g", ".")), ((".", "."),)))
        # Offers to the second way alone can let the first one wait.
        self.assertEqual(Through(PLUS).breach[0], 1)

    def test_which_way_is_told(self):
        self.assertEqual(Through(SHUT).breach, (0, (("g", "."),), ((".", "."),)))
        self.assertEqual(Through(SECOND).breach, (1, ((".", "g"),), ((".", "."),)))

    def test_loops_of_several_beats(self):
        # The memory goes round: at no beat the warden lets somebody in.
        round_it = [(0, memory, "??", None, (memory + 1) % 3) for memory in range(3)]
        told = Through(Crossing(2, [(0,)], round_it))
        self.assertEqual(told.breach, (0, (("g",),), ((".",),) * 3))

    def test_against_a_plain_looker(self):
        rng = seeded(411)
        verdicts = []
        while len(verdicts) < 60:
            crossing = random_crossing(rng, places=rng.randint(2, 4), most_rules=4, longest=3)
            order, beats = graph_of(crossing)
            if len(order) > 150:
                continue
            told = Through(crossing)
            verdicts.append(bool(told))
            loops = [(way, here) for way in range(len(crossing.ways)) for here in order
                     if least_way(beats, here, here, way) is not None]
            self.assertEqual(bool(told), not loops)
            if loops:
                way, home = loops[0]
                self.assertEqual(told.breach[0], way)
                lead = () if home == crossing.beginning else least_way(beats, crossing.beginning, home, None)
                self.assertEqual(told.breach[1:], (lead, least_way(beats, home, home, way)))
                continue
            self.assertEqual([situation for situation, _ in told], order)
            ranks = dict(told.table)
            for here in order:
                for way in range(len(crossing.ways)):
                    behind = [ranks[onto][way] + 1 for _, onto, rests in beats[here] if way in rests]
                    self.assertEqual(ranks[here][way], max(behind, default=0))
            self.assertIsNone(judge_through(crossing, told.table))
        self.assertIn(True, verdicts[:30])
        self.assertIn(False, verdicts[:30])

    def test_too_many(self):
        at_most = Crossing(6, ((2, 5, 4, 0, 4, 2, 5), (5, 1, 0, 1, 2, 1, 3, 4)), (
            (2, 1, "?...??", (0, 0), 0), (0, 0, "?#???#", (1, 2), 0), (4, 1, "??##??", None, 0)))
        more = Crossing(7, ((0, 5, 6, 0, 3, 5, 0), (4, 2, 5)), (
            (2, 0, "?#..???", (1, 1), 2), (0, 0, "?.??#??", (0, 6), 1), (0, 0, "#????.?", (0, 6), 2)))
        self.assertEqual(len(at_most.situations()), 500)
        self.assertEqual(raised(TooMany, more.situations).word, "situation")
        self.assertIn(bool(Through(at_most)), (True, False))
        self.assertEqual(raised(TooMany, Through, more).word, "situation")
        self.assertEqual(judge_through(more, ()), -1)


class JudgeTest(unittest.TestCase):
    def setUp(self):
        self.crossing = Crossing(3, [(0, 1), (2, 1)], [(1, 0, "#?#", (0, 1), 1), (1, 1, "#?#", (1, 1), 0)])
        self.table = Through(self.crossing).table

    def judge(self, table):
        return judge_through(self.crossing, table)

    def test_right(self):
        self.assertIsNone(self.judge(self.table))
        self.assertIsNone(self.judge([[list(part) for part in row] for row in self.table]))
        self.assertIsNone(self.judge(self.table[::-1]))
        # What a later row tells of the same situation is not looked up, but it must be right by itself.
        situation, ranks = self.table[-1]
        self.assertIsNone(self.judge(self.table + ((situation, tuple(rank + 1 for rank in ranks)),)))

    def test_beginning(self):
        for table in ((), self.table[1:], None, "", 0, {}):
            self.assertEqual(self.judge(table), -1)
        self.assertEqual(self.judge(((self.table[0][0], (9, 9)),)), 0)
        self.assertEqual(self.judge((self.table[0][0], (0, 0))), -1)

    def test_rows_taken_out_and_ranks_changed(self):
        rests = 0
        for at in range(1, len(self.table)):
            fewer = self.table[:at] + self.table[at + 1:]
            wrong = self.judge(fewer)
            gone = self.table[at][0]
            first = min(number for number, (here, _) in enumerate(fewer)
                        if any(self.crossing.beat(here, offer)[0] == gone for offer in self.crossing.all_offers))
            self.assertEqual(wrong, first)
        for at, (here, ranks) in enumerate(self.table):
            for way in range(2):
                if ranks[way] > 0:
                    less = tuple(rank - (each == way) for each, rank in enumerate(ranks))
                    self.assertEqual(self.judge(self.table[:at] + ((here, less),) + self.table[at + 1:]), at)
                    rests += 1
        self.assertGreater(rests, 2)

    def test_forms(self):
        situation, ranks = self.table[0]
        good = (((0, 0), (1, 1)), (0, 1), (0, 3, 0))
        for row in (None, (), (situation,), (situation, ranks, ranks), (situation, (0,)), (situation, (0, 0, 0)),
                    (situation, (0, -1)), (situation, (0, True)), (situation, (0, "0")), (situation, None),
                    (situation, 0), (None, ranks), (good[:2], ranks), (good + ((),), ranks),
                    ((((1, 1), (0, 0)), *good[1:]), ranks), ((((0, 0), (0, 0)), *good[1:]), ranks),
                    ((((0, 1), (1, 1)), *good[1:]), ranks), ((((0, 2),), *good[1:]), ranks),
                    ((((2, 0),), *good[1:]), ranks), ((((0, True),), *good[1:]), ranks), (((0, 0), *good[1:]), ranks),
                    ((None, *good[1:]), ranks), (("", *good[1:]), ranks), ((good[0], (0,), good[2]), ranks),
                    ((good[0], (0, 2), good[2]), ranks), ((good[0], (0, -1), good[2]), ranks),
                    ((good[0], (0, True), good[2]), ranks), ((good[0], (0, 1, 0), good[2]), ranks),
                    ((good[0], "01", good[2]), ranks), ((*good[:2], (0, 0)), ranks), ((*good[:2], (0, 4, 0)), ranks),
                    ((*good[:2], (0, -1, 0)), ranks), ((*good[:2], (0, False, 0)), ranks),
                    ((*good[:2], (0, 0, 0, 0)), ranks), ((*good[:2], 0), ranks)):
            self.assertEqual(self.judge(self.table + (row,)), len(self.table), row)
            self.assertEqual(self.judge((row,) + self.table), 0, row)
            self.assertEqual(self.judge((row,)), -1, row)

    def test_rows_that_are_never_reached(self):
        # No warden ever comes to the memory 3.
        lone = ((), (0, 0), (3, 3, 3))
        self.assertNotIn(lone, dict(self.table))
        wrong = self.judge(self.table + ((lone, (0, 0)),))
        self.assertEqual(wrong, len(self.table))
        queue = [lone]
        for here in queue:
            for offer in self.crossing.all_offers:
                onto = self.crossing.beat(here, offer)[0]
                if onto not in queue:
                    queue.append(onto)
        more = tuple((here, (9, 9)) for here in queue if here not in dict(self.table))
        resting = [at for at, (here, _) in enumerate(more)
                   if any(self.crossing.rests(here, offer) for offer in self.crossing.all_offers)]
        if resting:
            self.assertEqual(self.judge(self.table + more), len(self.table) + resting[0])
        quiet = Crossing(1, [(0,)])
        table = Through(quiet).table
        never = tuple(((groups, waiting, (2,)), ranks) for (groups, waiting, _), ranks in table)
        self.assertIsNone(judge_through(quiet, table + never))
        self.assertEqual(judge_through(quiet, table + never[:2]), 4)

    def test_situations_that_there_cannot_be(self):
        # Nothing is wrong with these but their form: all offers lead back to what is there.
        quiet = Crossing(1, [(0,)])
        table = Through(quiet).table
        for memory in (4, -1, False, True):
            never = tuple(((groups, waiting, (memory,)), ranks) for (groups, waiting, _), ranks in table)
            self.assertEqual(judge_through(quiet, table + never), len(table), memory)
        for waiting in (2, -1, False, True):
            self.assertEqual(judge_through(quiet, table + ((((), (waiting,), (0,)), (9,)),)), len(table), waiting)
        self.assertEqual(judge_through(quiet, table + ((((), (0, 0), (0,)), (9,)),)), len(table))
        self.assertEqual(judge_through(quiet, table + ((((), (0,), (0, 0)), (9,)),)), len(table))
        side = Crossing(3, [(0,), (1,)])
        table = Through(side).table
        for groups in (((1, 0), (0, 0)), ((0, 0), (0, 0))):
            self.assertEqual(judge_through(side, table + (((groups, (0, 0), (0, 0, 0)), (9, 9)),)), len(table))
        ring = Crossing(2, [(0, 1, 0)], [(0, 0, ".#", (0, 2), 0)])
        table = Through(ring).table
        both = (((0, 0), (0, 2)), (0,), (0, 0))
        queue = [both]
        for here in queue:
            queue += [onto for onto in (ring.beat(here, offer)[0] for offer in ring.all_offers) if onto not in queue]
        more = tuple((here, (9 - at,)) for at, here in enumerate(queue) if here not in dict(table))
        self.assertEqual((more[0][0], judge_through(ring, table + more)), (both, len(table)))


if __name__ == "__main__":
    unittest.main()
