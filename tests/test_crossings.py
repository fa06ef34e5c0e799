"""[34] crossings and how they are judged; [35] situations, offers, beats, leaving, resting."""

import unittest

from helpers import plain_beat, raised, random_crossing, seeded
from tailheard.crossings import Crossing
from tailheard.errors import BadNumber, BadPlaces, BadRule, BadWay, TooMany

PLUS = Crossing(3, [(0, 1), (2, 1)])
# Two ways through all eight places, with wardens that remember.
BIG_WAYS = ((0, 1, 2, 3, 4, 5, 6, 7), (7, 6, 5, 4, 3, 2, 1, 0))


def places_of(wrong):
    return raised(BadPlaces, Crossing, wrong, None).places


def way_of(places, ways, rules=None):
    return raised(BadWay, Crossing, places, ways, rules).number


def rule_of(rules, places=3, ways=((0, 1), (2, 1))):
    return raised(BadRule, Crossing, places, ways, rules).number


class CrossingTest(unittest.TestCase):
    def test_attributes(self):
        told = Crossing(3, [[0, 1], (2, 1)], [[1, 0, "?#.", [0, 1], 3]])
        self.assertEqual((told.places, told.ways), (3, ((0, 1), (2, 1))))
        self.assertEqual(told.rules, ((1, 0, "?#.", (0, 1), 3),))
        self.assertEqual((len(told), list(told)), (1, [(1, 0, "?#.", (0, 1), 3)]))
        self.assertEqual((PLUS.rules, len(PLUS), list(PLUS)), ((), 0, []))

    def test_lists_are_kept_as_tuples(self):
        ways, rules = [[0, 1], [2, 1]], [[1, 0, "???", [0, 1], 3]]
        told = Crossing(3, ways, rules)
        ways[0].append(0)
        ways.pop()
        rules[0][3][0] = 1
        rules.append(None)
        self.assertEqual((told.ways, told.rules), (((0, 1), (2, 1)), ((1, 0, "???", (0, 1), 3),)))

    def test_places(self):
        for places in (0, 9, -1, True, "3", None, (3,)):
            self.assertIs(places_of(places), places)
        self.assertEqual(Crossing(1, [[0]]).places, 1)
        self.assertEqual(Crossing(8, [tuple(range(8))]).places, 8)

    def test_ways(self):
        for ways in ((), ((0,),) * 3, None, "01", 0, {0: (0,)}):
            self.assertEqual(way_of(3, ways), -1, ways)
        for way in ((), (0,) * 9, (0, 1, 2, 0, 1, 2, 0, 1, 2), (0, 0), (1, 2, 2), (3,), (-1,), (True,), (0, True), "01",
                    None, 0, ((0,),), ("0",)):
            self.assertEqual(way_of(3, [way]), 0, way)
            self.assertEqual(way_of(3, [(0, 1), way]), 1, way)
            self.assertEqual(way_of(3, [way, None]), 0, way)
        self.assertEqual(Crossing(4, [(0,)]).ways, ((0,),))
        self.assertEqual(Crossing(4, [(0, 1, 2, 3, 2, 1, 0, 1)]).ways, ((0, 1, 2, 3, 2, 1, 0, 1),))
        self.assertEqual(way_of(1, [(0, 1)]), 0)

    def test_spots_of_a_place(self):
        self.assertEqual(len(Crossing(2, [(0, 1, 0, 1, 0)]).ways[0]), 5)
        self.assertEqual(way_of(2, [(0, 1, 0, 1, 0, 1, 0)]), 0)
        self.assertEqual(len(Crossing(3, [(0, 1, 0), (2, 0)]).ways), 2)
        self.assertEqual(way_of(3, [(0, 1, 0), (0, 2, 0)]), 1)
        self.assertEqual(way_of(3, [(0, 1, 0, 1, 0), (2, 0)]), 1)
        # The form of the second way and the fourth spot are errors of the same way; the first one goes ahead.
        self.assertEqual(way_of(3, [(0, 1, 0, 1, 0, 1, 0), (5,)]), 0)

    def test_rules(self):
        for rules in (None, 0, "???", {}, ((0, 0, "???", None, 0),) * 13):
            self.assertEqual(rule_of(rules), -1)
        self.assertEqual(len(Crossing(3, PLUS.ways, [(0, 0, "???", None, 0)] * 12)), 12)
        good = (1, 3, "?#.", (1, 1), 3)
        self.assertEqual(Crossing(3, PLUS.ways, [good]).rules, (good,))
        for row in ((), None, "abcde", good[:4], good + (0,), (3, *good[1:]), (-1, *good[1:]), (True, *good[1:]),
                    (3, 0, "???", None, 0), (-1, 0, "???", None, 0), (False, 0, "???", None, 0),
                    (1, 4, *good[2:]), (1, -1, *good[2:]), (1, False, *good[2:]), (1, "0", *good[2:]),
                    (1, 0, "??", *good[3:]), (1, 0, "????", *good[3:]), (1, 0, "??x", *good[3:]),
                    (1, 0, ("?", "?", "?"), *good[3:]), (1, 0, None, *good[3:]), (1, 0, "???", (0, 0), 0),
                    (1, 0, "???", (1, 0), 0), (1, 0, "???", (0, 2), 0), (1, 0, "???", (2, 1), 0),
                    (1, 0, "???", (0, True), 0), (1, 0, "???", (-1, 1), 0), (1, 0, "???", (0, -1), 0),
                    (1, 0, "???", (0,), 0), (1, 0, "???", (0, 1, 0), 0), (1, 0, "???", 0, 0), (1, 0, "???", "01", 0),
                    (1, 0, "???", False, 0), (1, 0, "???", (0, 1), 4), (1, 0, "???", (0, 1), -1),
                    (1, 0, "???", (0, 1), True), (1, 0, "???", (0, 1), None)):
            self.assertEqual(rule_of([row]), 0, row)
            self.assertEqual(rule_of([good, row, None]), 1, row)
        self.assertEqual(len(Crossing(3, PLUS.ways, [(0, 0, "???", None, 0), (2, 0, "...", (1, 0), 0)])), 2)

    def test_order_of_errors(self):
        self.assertEqual(places_of(0), 0)
        self.assertEqual(raised(BadPlaces, Crossing, 0, None, None).places, 0)
        self.assertEqual(way_of(3, [(0, 0)], None), 0)
        self.assertEqual(way_of(3, None, None), -1)

    def test_equal(self):
        rule = (1, 0, "???", None, 0)
        self.assertEqual(PLUS, Crossing(3, ((0, 1), (2, 1)), ()))
        for other in (Crossing(4, PLUS.ways), Crossing(3, [(0, 1), (0, 1)]), Crossing(3, PLUS.ways, [rule]), None, 3,
                      (3, PLUS.ways, ())):
            self.assertNotEqual(PLUS, other)
            self.assertIs(PLUS == other, False)
        self.assertIs(PLUS == Crossing(3, ((0, 1), (2, 1)), ()), True)

    def test_one_rule_more(self):
        one = PLUS + [1, 0, "???", [1, 1], 0]
        self.assertEqual((len(PLUS), one.rules), (0, ((1, 0, "???", (1, 1), 0),)))
        two = one + (1, 0, "???", None, 0)
        self.assertEqual(two.rules, (*one.rules, (1, 0, "???", None, 0)))
        self.assertEqual(raised(BadRule, lambda: two + (1, 0, "??", None, 0)).number, 2)
        self.assertEqual(raised(BadRule, lambda: two + None).number, 2)
        self.assertEqual(raised(BadRule, lambda: PLUS + 7).number, 0)
        full = Crossing(3, PLUS.ways, [(1, 0, "???", None, 0)] * 12)
        self.assertEqual(raised(BadRule, lambda: full + (1, 0, "???", None, 0)).number, -1)
        self.assertEqual(raised(BadRule, lambda: full + None).number, -1)

    def test_without(self):
        rules = [(1, memory, "???", None, 0) for memory in range(4)]
        told = Crossing(3, PLUS.ways, rules)
        for number in range(4):
            self.assertEqual(told.without(number).rules, tuple(rules[:number] + rules[number + 1:]))
        for number in (4, -1, True, None, "0", (0,)):
            self.assertIs(raised(BadNumber, told.without, number).number, number)
        self.assertEqual(raised(BadNumber, PLUS.without, 0).number, 0)
        self.assertEqual((told.rules, told.without(0).ways), (tuple(rules), PLUS.ways))


class BeatTest(unittest.TestCase):
    def test_beginning_and_offers(self):
        self.assertEqual(PLUS.beginning, ((), (0, 0), (0, 0, 0)))
        self.assertEqual(PLUS.all_offers, ((".", "."), (".", "g"), ("g", "."), ("g", "g")))
        one = Crossing(1, [(0,)])
        self.assertEqual((one.beginning, one.all_offers), (((), (0,), (0,)), ((".",), ("g",))))

    def test_without_rules_the_least_spot_goes_first(self):
        both = (((0, 0), (1, 0)), (0, 0), (0, 0, 0))
        self.assertEqual(PLUS.beat(both, (".", ".")), ((((0, 1), (1, 0)), (0, 0), (0, 0, 0)), ()))
        self.assertEqual(PLUS.rests(both, (".", ".")), (1,))
        behind = (((0, 1), (1, 0)), (0, 0), (0, 0, 0))
        # The place is left at this beat, so nobody comes into it yet.
        self.assertEqual(PLUS.beat(behind, (".", ".")), ((((1, 0),), (0, 0), (0, 0, 0)), (0,)))
        self.assertEqual(PLUS.rests(behind, (".", ".")), (1,))

    def test_lists_are_taken(self):
        self.assertEqual(PLUS.beat([[[0, 0]], [0, 0], [0, 0, 0]], [".", "g"]),
                         PLUS.beat((((0, 0),), (0, 0), (0, 0, 0)), (".", "g")))
        self.assertEqual(PLUS.rests([[[0, 0]], [0, 1], [0, 0, 0]], ["g", "g"]), ())

    def test_offers(self):
        first = PLUS.beginning
        self.assertEqual(PLUS.beat(first, ("g", ".")), ((((0, 0),), (0, 0), (0, 0, 0)), ()))
        self.assertEqual(PLUS.beat(first, ("g", "g"))[0], (((0, 0), (1, 0)), (0, 0), (0, 0, 0)))
        # Somebody is in the first place, so who comes waits, and a further offer does nothing.
        one = (((0, 0),), (0, 0), (0, 0, 0))
        shut = Crossing(3, PLUS.ways, [(1, 0, "???", None, 0)])
        two = shut.beat(one, ("g", "."))
        self.assertEqual(two, ((((0, 0),), (1, 0), (0, 0, 0)), ()))
        self.assertEqual(shut.beat(two[0], ("g", ".")), two)
        self.assertEqual(shut.rests(one, ("g", ".")), (0,))
        self.assertEqual(shut.rests(one, (".", ".")), (0,))

    def test_rules(self):
        both = (((0, 0), (1, 0)), (0, 0), (0, 0, 0))

        def behind(*rules):
            return Crossing(3, PLUS.ways, rules).beat(both, (".", "."))[0]

        self.assertEqual(behind((1, 0, "#.#", (1, 1), 2)), (((0, 0), (1, 1)), (0, 0), (0, 2, 0)))
        # The first rule that fits tells; others of another place, memory or sight do not.
        self.assertEqual(behind((0, 0, "???", (0, 0), 1), (1, 1, "???", None, 3), (1, 0, "##?", None, 3),
                                (1, 0, "..?", None, 3), (1, 0, "???", (1, 1), 0), (1, 0, "???", None, 1)),
                         (((0, 0), (1, 1)), (0, 0), (0, 0, 0)))
        self.assertEqual(behind((1, 0, "???", None, 1)), (both[0], (0, 0), (0, 1, 0)))
        # A rule whose spot nobody claims for lets nobody in, but the memory becomes what it tells.
        one = (((0, 0),), (0, 0), (0, 0, 0))
        told = Crossing(3, PLUS.ways, [(1, 0, "???", (1, 1), 1)])
        self.assertEqual(told.beat(one, (".", ".")), ((((0, 0),), (0, 0), (0, 1, 0)), ()))
        self.assertEqual(told.beat((((0, 0),), (0, 0), (0, 1, 0)), (".", ".")), ((((0, 1),), (0, 0), (0, 1, 0)), ()))
        # Without a claim for the place, or with somebody in it, no rule of it tells anything.
        self.assertEqual(told.beat(told.beginning, (".", "."))[0], told.beginning)
        self.assertEqual(told.beat((((0, 0), (0, 1)), (0, 0), (0, 0, 0)), (".", "."))[0],
                         (((0, 0),), (0, 0), (0, 0, 0)))

    def test_memories_change_though_nobody_is_let_in(self):
        told = Crossing(1, [(0,)], [(0, 0, "?", None, 1), (0, 1, ".", (0, 0), 3)])
        first = told.beat(told.beginning, ("g",))
        self.assertEqual(first, (((), (1,), (1,)), ()))
        self.assertEqual(told.rests(told.beginning, ("g",)), (0,))
        second = told.beat(first[0], (".",))
        self.assertEqual(second, ((((0, 0),), (0,), (3,)), ()))
        self.assertEqual(told.rests(first[0], (".",)), ())
        self.assertEqual(told.beat(second[0], ("g",)), (((), (1,), (3,)), (0,)))
        self.assertEqual(told.rests(second[0], ("g",)), ())

    def test_last_spots(self):
        one = Crossing(3, [(0, 1, 2)])
        self.assertEqual(one.beat((((0, 2),), (0,), (0, 0, 0)), (".",)), (((), (0,), (0, 0, 0)), (0,)))
        self.assertEqual(one.beat((((0, 1), (0, 2)), (0,), (0, 0, 0)), (".",)),
                         ((((0, 1),), (0,), (0, 0, 0)), (0,)))
        # The way moves as one of its groups leaves, though others stand.
        self.assertEqual(one.rests((((0, 1), (0, 2)), (1,), (0, 0, 0)), (".",)), ())
        both = Crossing(2, [(0,), (1,)])
        self.assertEqual(both.beat((((0, 0), (1, 0)), (0, 0), (0, 0)), ("g", ".")), (((), (1, 0), (0, 0)), (0, 1)))

    def test_ways_that_rest(self):
        self.assertEqual(PLUS.rests(PLUS.beginning, (".", ".")), ())
        shut = Crossing(3, PLUS.ways, [(place, 0, "???", None, 0) for place in range(3)])
        self.assertEqual(shut.rests(shut.beginning, ("g", ".")), (0,))
        self.assertEqual(shut.rests(shut.beginning, ("g", "g")), (0, 1))
        self.assertEqual(shut.rests(((), (0, 1), (0, 0, 0)), ("g", ".")), (0, 1))
        self.assertEqual(shut.rests((((1, 0),), (0, 0), (0, 0, 0)), (".", ".")), (1,))

    def test_a_way_that_crosses_itself(self):
        told = Crossing(3, [(0, 1, 2, 0)])
        # Two groups claim the place 0: the one at the entrance has the lesser spot.
        self.assertEqual(told.beat((((0, 2),), (1,), (0, 0, 0)), (".",))[0], (((0, 0), (0, 2)), (0,), (0, 0, 0)))
        self.assertEqual(told.beat((((0, 0), (0, 2)), (0,), (0, 0, 0)), (".",))[0],
                         (((0, 1), (0, 2)), (0,), (0, 0, 0)))
        first = told + (0, 0, "..#", (0, 3), 0)
        self.assertEqual(first.beat((((0, 2),), (1,), (0, 0, 0)), (".",))[0], (((0, 3),), (1,), (0, 0, 0)))

    def test_run(self):
        offers = [("g", "."), (".", "g"), [".", "."], (".", ".")]
        told = list(PLUS.run(offers))
        self.assertEqual(len(told), 4)
        situation = PLUS.beginning
        for offer, pair in zip(offers, told):
            self.assertEqual(pair, PLUS.beat(situation, offer))
            situation = pair[0]
        self.assertEqual([leaving for _, leaving in told], [(), (), (0,), ()])
        self.assertEqual(list(PLUS.run(())), [])
        # Nothing is done before it is iterated.
        PLUS.run(None)
        self.assertRaises(TypeError, list, PLUS.run(None))
        offers = [("g", ".")]
        later = PLUS.run(offers)
        offers.append((".", "."))
        self.assertEqual(len(list(later)), 2)

    def test_against_a_plain_looker(self):
        rng = seeded(401)
        for _ in range(150):
            told = random_crossing(rng, most_rules=6)
            situation = told.beginning
            for _ in range(40):
                offer = rng.choice(told.all_offers)
                onto, leaving, rests = plain_beat(told.places, told.ways, told.rules, situation, offer)
                self.assertEqual(told.beat(situation, offer), (onto, leaving))
                self.assertEqual(told.rests(situation, offer), rests)
                situation = onto


class SituationsTest(unittest.TestCase):
    def test_all(self):
        one = Crossing(1, [(0,)])
        self.assertEqual(one.situations(), (((), (0,), (0,)), (((0, 0),), (0,), (0,)), ((), (1,), (0,))))

    def test_order_against_a_plain_looker(self):
        rng = seeded(402)
        for _ in range(40):
            told = random_crossing(rng, most_rules=3, longest=3)
            try:
                found = told.situations()
            except TooMany:
                continue
            order = [told.beginning]
            for here in order:
                for offer in sorted(told.all_offers):
                    onto = plain_beat(told.places, told.ways, told.rules, here, offer)[0]
                    if onto not in order:
                        order.append(onto)
            self.assertEqual(found, tuple(order))

    def test_too_many(self):
        self.assertEqual(raised(TooMany, Crossing(8, BIG_WAYS).situations).word, "situation")


if __name__ == "__main__":
    unittest.main()
