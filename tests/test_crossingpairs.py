"""[37] two crossings that are alike, tables of pairs, needless rules and the lean crossing."""

import unittest

from helpers import plain_beat, raised, random_crossing, seeded
from tailheard.crossingpairs import CrossingPair, judge_crossings
from tailheard.crossings import Crossing
from tailheard.errors import BadNumber, TooMany, Unlike
from tailheard.leancrossings import lean, needless

ONE = Crossing(2, [(0, 1)])
# Another street: more places, other numbers, a rule that lets in what is let in anyway.
OTHER = Crossing(4, [(3, 2)], [(3, 0, "????", (0, 0), 0)])
SLOW = Crossing(2, [(0, 1)], [(1, 0, "??", None, 1), (1, 1, "??", (0, 1), 0)])
LONG = Crossing(3, [(0, 1, 2)])

# For numbers of situations, crossings that have just so many.
SIZED = {
    700: (8, ((4, 6, 7, 5, 6, 7), (2, 4, 6, 0, 1, 0, 1, 5)), (
        (2, 1, "???.???#", None, 0), (1, 1, "??..??.?", (1, 6), 1))),
    701: (6, ((2, 5, 2, 4, 2), (1, 3, 0, 3, 4, 3)), ((1, 1, "#.????", (1, 0), 1), (3, 0, "????.#", None, 1))),
}


def graph_of(first, second):
    """The pairs in order, and for each one the triples (offer, pair, whether the same ways are left)."""
    order, beats = [(first.beginning, second.beginning)], {}
    for pair in order:
        beats[pair] = []
        for offer in sorted(first.all_offers):
            one = plain_beat(first.places, first.ways, first.rules, pair[0], offer)
            two = plain_beat(second.places, second.ways, second.rules, pair[1], offer)
            onto = (one[0], two[0])
            beats[pair].append((offer, onto, one[1] == two[1]))
            if onto not in order:
                order.append(onto)
    return order, beats


def plain_parting(first, second, most):
    """The least tuple of offers at whose last beat other ways are left, found by trying all of them."""
    layer = [((), (first.beginning, second.beginning))]
    for _ in range(most):
        further = []
        for offers, (here, there) in layer:
            for offer in sorted(first.all_offers):
                one, two = first.beat(here, offer), second.beat(there, offer)
                if one[1] != two[1]:
                    return offers + (offer,)
                further.append((offers + (offer,), (one[0], two[0])))
        layer = further
    return None


def sized(number):
    """A crossing with just so many situations."""
    return Crossing(*SIZED[number])


class PairTest(unittest.TestCase):
    def test_alike(self):
        told = CrossingPair(ONE, OTHER)
        self.assertEqual((bool(told), told.parting), (True, None))
        self.assertEqual(told.table[0], (ONE.beginning, OTHER.beginning))
        self.assertEqual((len(told), list(told)), (len(told.table), list(told.table)))
        self.assertIsNone(judge_crossings(ONE, OTHER, told.table))
        self.assertTrue(CrossingPair(OTHER, ONE))

    def test_unlike(self):
        told = CrossingPair(ONE, SLOW)
        self.assertEqual((bool(told), told.table, len(told), list(told)), (False, None, 0, []))
        self.assertEqual(told.parting, (("g",), (".",), (".",)))
        self.assertEqual(CrossingPair(SLOW, ONE).parting, told.parting)
        self.assertEqual(CrossingPair(ONE, LONG).parting, (("g",), (".",), (".",)))

    def test_other_numbers_of_ways(self):
        two = Crossing(2, [(0, 1), (0,)])
        for first, second in ((ONE, two), (two, ONE)):
            self.assertEqual(raised(Unlike, CrossingPair, first, second).word, "ways")
            self.assertEqual(raised(Unlike, judge_crossings, first, second, None).word, "ways")

    def test_against_a_plain_looker(self):
        rng = seeded(421)
        verdicts = []
        while len(verdicts) < 80:
            first = random_crossing(rng, most_rules=3, longest=3)
            second = random_crossing(rng, ways=len(first.ways), most_rules=2, longest=3)
            if rng.random() < 0.5:
                second = changed(rng, first)
            order, beats = graph_of(first, second)
            if len(order) > 120:
                continue
            told = CrossingPair(first, second)
            verdicts.append(bool(told))
            self.assertEqual(bool(told), all(is_same for pair in order for _, _, is_same in beats[pair]))
            if told:
                self.assertEqual(list(told.table), order)
                self.assertIsNone(judge_crossings(first, second, told.table))
            elif len(told.parting) < 7:
                self.assertEqual(told.parting, plain_parting(first, second, 7))
            else:
                runs = [[leaving for _, leaving in each.run(told.parting)] for each in (first, second)]
                self.assertEqual(runs[0][:-1], runs[1][:-1])
                self.assertNotEqual(runs[0], runs[1])
        self.assertGreater(min(verdicts.count(True), verdicts.count(False)), 10)

    def test_too_many(self):
        at_most = [Crossing(8, ((4, 1, 4), (6, 4, 7)), [(4, 0, "??#??#?.", (1, 1), 0)]),
                   Crossing(8, ((2, 3), (1, 5, 4, 5, 0)), [(2, 1, "?#?????#", (0, 0), 1)])]
        more = [Crossing(8, ((2, 0, 6), (4, 6))), Crossing(8, ((4, 7, 1, 3, 7, 3), (3,)))]
        self.assertEqual(len(graph_of(*at_most)[0]), 700)
        self.assertEqual(len(graph_of(*more)[0]), 701)
        self.assertEqual(CrossingPair(*at_most).parting, plain_parting(*at_most, 7))
        # They are unlike, but that is not told where there are too many pairs.
        self.assertEqual(raised(TooMany, CrossingPair, *more).word, "pair")
        self.assertEqual(judge_crossings(*more, ()), -1)

    def test_no_other_too_many(self):
        crossing = sized(700)
        self.assertEqual(raised(TooMany, crossing.situations).word, "situation")
        told = CrossingPair(crossing, crossing)
        self.assertEqual((bool(told), len(told)), (True, 700))
        self.assertIsNone(judge_crossings(crossing, crossing, told.table))
        self.assertEqual(raised(TooMany, CrossingPair, sized(701), sized(701)).word, "pair")


def changed(rng, crossing):
    """A crossing with a rule more or less somewhere, or with its places in another order."""
    if rng.random() < 0.4:
        order = rng.sample(range(crossing.places + 1), crossing.places)

        def sight_of(row):
            sight = ["?"] * (crossing.places + 1)
            for place, sign in enumerate(row):
                sight[order[place]] = sign
            return "".join(sight)

        return Crossing(crossing.places + 1, [[order[place] for place in way] for way in crossing.ways],
                        [(order[row[0]], row[1], sight_of(row[2]), *row[3:]) for row in crossing.rules])
    if len(crossing) and rng.random() < 0.5:
        return crossing.without(rng.randrange(len(crossing)))
    way, index = rng.choice([(way, index) for way, row in enumerate(crossing.ways) for index in range(len(row))])
    sight = "".join(rng.choice("???.#") for _ in range(crossing.places))
    return crossing + (crossing.ways[way][index], rng.randint(0, 1), sight, (way, index), rng.randint(0, 1))


class JudgeTest(unittest.TestCase):
    def setUp(self):
        self.pair = (SLOW, Crossing(3, [(2, 0)], [(0, 0, "???", None, 3), (0, 3, "???", (0, 1), 0)]))
        self.table = CrossingPair(*self.pair).table

    def judge(self, table):
        return judge_crossings(*self.pair, table)

    def test_closed(self):
        self.assertGreater(len(self.table), 4)
        self.assertIsNone(self.judge(self.table))
        self.assertIsNone(self.judge(self.table[::-1]))
        self.assertIsNone(self.judge(self.table + self.table))
        self.assertIsNone(self.judge([list(row) for row in self.table]))

    def test_beginning(self):
        for table in ((), self.table[1:], None, 0, ""):
            self.assertEqual(self.judge(table), -1)
        self.assertEqual(self.judge(self.table[:1]), 0)

    def test_rows_taken_out(self):
        for at in range(1, len(self.table)):
            fewer = self.table[:at] + self.table[at + 1:]
            first = min(number for number, (here, there) in enumerate(fewer) for offer in self.pair[0].all_offers
                        if (self.pair[0].beat(here, offer)[0], self.pair[1].beat(there, offer)[0]) == self.table[at])
            self.assertEqual(self.judge(fewer), first)

    def test_other_leavings(self):
        # Here a group of the first crossing leaves, there none of the second one.
        lone = ((((0, 1),), (0,), (0, 0)), ((), (0,), (0, 0, 0)))
        self.assertEqual(self.judge(self.table + (lone,)), len(self.table))
        order, beats = graph_of(ONE, SLOW)
        self.assertEqual(judge_crossings(ONE, SLOW, tuple(order)), min(
            at for at, pair in enumerate(order) if not all(is_same for _, _, is_same in beats[pair])))

    def test_forms(self):
        here, there = self.table[0]
        for row in (None, (), (here,), (here, there, there), (there, here), (here, None), (here, (*there[:2], (0, 0))),
                    (((), (0,), (True, 0)), there), "ab", 7):
            self.assertEqual(self.judge(self.table + (row,)), len(self.table), row)
            self.assertEqual(self.judge((row, *self.table)), 0, row)

    def test_situations_that_there_cannot_be(self):
        # Nothing is wrong with these but their form: all offers lead back to what is there.
        table = CrossingPair(ONE, ONE).table
        for memory in (4, -1, False):
            for side in (0, 1):
                never = []
                for row in table:
                    groups, waiting, _ = row[side]
                    other = (groups, waiting, (memory, 0))
                    never.append((row[0], other) if side else (other, row[1]))
                self.assertEqual(judge_crossings(ONE, ONE, table + tuple(never)), len(table))

    def test_rows_that_are_never_reached(self):
        # The memories 1 and 2 of the first place: no rule ever tells of it.
        more = tuple(((one[0], one[1], (2, one[2][1])), (two[0], two[1], (two[2][0], 1, two[2][2])))
                     for one, two in self.table)
        self.assertIsNone(self.judge(self.table + more))
        self.assertEqual(self.judge(self.table + more[:1]), len(self.table))


class LeanTest(unittest.TestCase):
    def test_rules_that_are_needless_each_but_not_together(self):
        twice = (1, 0, "???", (1, 1), 0)
        crossing = Crossing(3, [(0, 1), (2, 1)], [twice, twice])
        self.assertEqual(needless(crossing), (0, 1))
        self.assertEqual(lean(crossing).rules, (twice,))
        self.assertEqual(needless(lean(crossing)), ())
        self.assertEqual(crossing.rules, (twice, twice))

    def test_rules_that_tell_what_happens_anyway(self):
        rows = [(1, 0, "???", (0, 1), 0), (1, 0, "#?#", (1, 1), 0), (1, 3, "???", None, 0)]
        crossing = Crossing(3, [(0, 1), (2, 1)], rows)
        # The first rule covers the second one; without it, the second one would tell of both groups.
        self.assertEqual(needless(crossing), (1, 2))
        self.assertEqual(lean(crossing).rules, (rows[0],))
        self.assertEqual(needless(crossing.without(1)), (1,))

    def test_no_rules(self):
        self.assertEqual(needless(ONE), ())
        self.assertEqual(lean(ONE), ONE)
        self.assertEqual(lean(OTHER).rules, ())
        self.assertEqual(lean(SLOW), SLOW)

    def test_against_a_plain_looker(self):
        rng = seeded(422)
        many = 0
        while many < 30:
            crossing = random_crossing(rng, most_rules=4, longest=3)
            if len(graph_of(crossing, crossing)[0]) > 60:
                continue
            many += 1
            self.assertEqual(needless(crossing), tuple(at for at in range(len(crossing))
                                                       if CrossingPair(crossing.without(at), crossing)))
            rules = list(crossing.rules)
            for row in list(rules):
                at = rules.index(row)
                if len(set(rules)) < len(rules):
                    break
                now = Crossing(crossing.places, crossing.ways, rules)
                if CrossingPair(now.without(at), now):
                    rules.remove(row)
            else:
                self.assertEqual(lean(crossing), Crossing(crossing.places, crossing.ways, rules))
            self.assertTrue(CrossingPair(lean(crossing), crossing))

    def test_too_many(self):
        crossing = sized(701) + (0, 3, "?" * sized(701).places, None, 3)
        self.assertEqual(raised(TooMany, needless, crossing).word, "pair")
        self.assertEqual(raised(TooMany, lean, crossing).word, "pair")
        self.assertEqual(raised(BadNumber, crossing.without, len(crossing)).number, len(crossing))


if __name__ == "__main__":
    unittest.main()
