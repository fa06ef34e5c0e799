"""[23] paces, loops, potentials, when potentials are right."""

import unittest
from fractions import Fraction

from helpers import FREE, raised, random_plan, random_walkers, seeded, walkers
from tailheard.errors import BadSign, TooMany, Unknown
from tailheard.heard import steps
from tailheard.makes import Make
from tailheard.paces import Pace, judge_potentials
from tailheard.plans import Plan
from tailheard.plantext import read_plan
from tailheard.rises import Rises

STILL = ((0, 1, (0, 0, 0)),)


def moves(make, name, calls, node):
    """The triples (sign, stride, node) of the steps of a node."""
    found = []
    for sign, onto in steps(calls, node[0]):
        further = make[name][node[1]][2][("." + make.words).index(sign)]
        found.append((sign, make[name][further][0], (onto, further)))
    return found


def closed_walks(make, name, calls, nodes):
    """For each number of signs up to that of the nodes, for each node the greatest sum of a way back to it."""
    found = {}
    for home in nodes:
        layer = {home: 0}
        for many in range(1, len(nodes) + 1):
            further = {}
            for node, total in layer.items():
                for _, stride, onto in moves(make, name, calls, node):
                    further[onto] = max(further.get(onto, total + stride), total + stride)
            layer = further
            if home in layer:
                found[(many, home)] = layer[home]
    return found


def least_text(make, name, calls, home, many, total):
    """The least string of so many signs that leads from a node back to it with a sum of strides."""
    layer = {(home, 0): ""}
    for _ in range(many):
        further = {}
        for (node, worth), text in layer.items():
            for sign, stride, onto in moves(make, name, calls, node):
                key = (onto, worth + stride)
                further[key] = min(further.get(key, text + sign), text + sign)
        layer = further
    return layer[(home, total)]


class PaceTest(unittest.TestCase):
    def test_a_walker(self):
        calls = read_plan("(a.b.)*")
        told = Pace(walkers(), "A", calls)
        self.assertEqual(told.nodes, tuple(row[:2] for row in Rises(walkers(), "A", calls)))
        self.assertEqual(told.nodes, ((-2, 0), (-1, 0), (1, 1), (2, 1), (3, 0), (0, 0)))
        self.assertEqual((told.pace, told.loop), ((1, 2), ((1, 1), ".b.a")))
        self.assertEqual(told.potentials, (0, -1, 1, 2, 1, 0))

    def test_no_pace(self):
        told = Pace(walkers(), "A", read_plan("ab"))
        self.assertEqual((told.pace, told.loop), ((0, 1), ((-2, 0), ".")))
        self.assertEqual(told.potentials, (0, 1, 1, 1))

    def test_walks_below_zero(self):
        # A group that cannot help going back: the loop of waiting is there for each plan, so no pace is below 0.
        make = Make("ab", [("A", 1, ((0, 1, (0, 1, 1)), (-2, 1, (2, 1, 1)), (-1, 1, (1, 1, 1))))])
        told = Pace(make, "A", FREE)
        self.assertEqual((told.pace, told.loop), ((0, 1), ((-2, 0), ".")))
        self.assertEqual(dict(zip(told.nodes, told.potentials))[(0, 1)], -2)
        for pace in ((-1, 1), (-3, 2), (-1, 10 ** 30)):
            self.assertEqual(judge_potentials(make, "A", FREE, pace, told.potentials), 0)

    def test_lowest_terms(self):
        make = Make("a", [("A", 1, ((0, 1, (0, 1)), (2, 1, (2, 1)), (2, 1, (0, 1))))])
        told = Pace(make, "A", Plan([[("a", 1)], [(".", 2)], [(".", 3)], [(".", 0)]]))
        self.assertEqual(told.pace, (1, 1))
        self.assertEqual(len(told.loop[1]), 4)
        free = Pace(make, "A", Plan([[(".", 0), ("a", 0)]]))
        self.assertEqual((free.pace, free.loop), ((2, 1), ((0, 1), "a")))

    def test_the_loop_with_the_fewest_signs(self):
        # Loops of three and of two signs, both with the mean 1: the shorter one is told, though it is met later.
        rows = ((0, 1, (0, 1, 3)), (3, 1, (2, 1, 1)), (0, 1, (0, 1, 1)), (2, 1, (4, 1, 1)), (0, 1, (4, 1, 3)))
        make = Make("ab", [("A", 1, rows)])
        calls = read_plan("((a..)*|(b.)*)")
        told = Pace(make, "A", calls)
        self.assertEqual((told.pace, len(told.loop[1])), ((1, 1), 2))
        self.assertEqual(told.loop[1], ".b")

    def test_the_first_node_then_the_least_string(self):
        # `a` and `b` lead alike: of the strings of the loop the one with `a` is the least.
        make = Make("ab", [("A", 1, ((0, 1, (0, 1, 1)), (1, 1, (0, 0, 0))))])
        told = Pace(make, "A", Plan([[("a", 1), ("b", 1)], [("a", 0), ("b", 0)]]))
        self.assertEqual(told.nodes[:2], ((-2, 0), (-1, 0)))
        self.assertEqual((told.pace, told.loop), ((1, 2), ((1, 1), "aa")))

    def test_against_plain_lookers(self):
        rng = seeded(140)
        kinds = set()
        for _ in range(120):
            make = random_walkers(rng)
            calls = random_plan(rng, ".ab", most=5)
            told = Pace(make, "A", calls)
            walks = closed_walks(make, "A", calls, told.nodes)
            best = max(Fraction(total, many) for (many, _), total in walks.items())
            self.assertEqual(told.pace, (best.numerator, best.denominator))
            many, home = min([key for key, total in walks.items() if Fraction(total, key[0]) == best],
                             key=lambda key: (key[0], told.nodes.index(key[1])))
            text = least_text(make, "A", calls, home, many, walks[(many, home)])
            self.assertEqual(told.loop, (home, text))
            kinds.add((many > 1, best.denominator > 1))
            sums = {(-2, 0): 0}
            for _ in told.nodes:
                for node in list(sums):
                    for _, stride, onto in moves(make, "A", calls, node):
                        worth = sums[node] + told.pace[1] * stride - told.pace[0]
                        sums[onto] = max(sums.get(onto, worth), worth)
            self.assertEqual(told.potentials, tuple(sums[node] for node in told.nodes))
            self.assertIsNone(judge_potentials(make, "A", calls, told.pace, told.potentials))
        self.assertGreaterEqual(len(kinds), 3)

    def test_a_hundred_nodes(self):
        make = Make("a", [("A", 1, ((0, 1, (0, 1)), (0, 1, (1, 0))))])
        both = [[(".", at + 1), ("a", at + 1)] for at in range(1, 49)]
        told = Pace(make, "A", Plan([[("a", 1)], *both, []], [49]))
        self.assertEqual((len(told.nodes), len(told.potentials)), (100, 100))
        more = Plan([[(".", 1), ("a", 1)], *both, []], [49])
        self.assertEqual(raised(TooMany, Pace, make, "A", more).word, "node")
        self.assertEqual(raised(TooMany, judge_potentials, make, "A", more, (0, 1), None).word, "node")

    def test_order_of_errors(self):
        make = walkers()
        bad = Plan([[("c", 0)]])
        for call in (Pace, lambda *things: judge_potentials(*things, (0, 1), None)):
            for name in ("B", "AA", "", None, ["A"], True):
                self.assertIs(raised(Unknown, call, make, name, bad).name, name)
            self.assertEqual(raised(BadSign, call, make, "A", bad).sign, "c")


class JudgeTest(unittest.TestCase):
    make = walkers()
    calls = read_plan("(a.b.)*")
    told = Pace(make, "A", calls)

    def judge(self, potentials, pace=(1, 2)):
        return judge_potentials(self.make, "A", self.calls, pace, potentials)

    def test_right(self):
        self.assertIsNone(self.judge(self.told.potentials))
        self.assertIsNone(self.judge(list(self.told.potentials), [1, 2]))
        for more in (1, -7, 10 ** 30):
            self.assertIsNone(self.judge([potential + more for potential in self.told.potentials]))

    def test_one_changed(self):
        order = list(self.told.nodes)
        for at in range(len(order)):
            less = [potential - (place == at) for place, potential in enumerate(self.told.potentials)]
            sources = [number for number, node in enumerate(order)
                       if order[at] in [onto for _, _, onto in moves(self.make, "A", self.calls, node)]]
            if at:
                self.assertEqual(self.judge(less), sources[0])
        # A greater one breaks a step of its own.
        greater = [potential + 9 * (place == 2) for place, potential in enumerate(self.told.potentials)]
        self.assertEqual(self.judge(greater), 2)

    def test_other_paces(self):
        self.assertIsNotNone(self.judge(self.told.potentials, (0, 1)))
        self.assertIsNotNone(self.judge(self.told.potentials, (1, 3)))
        for pace in ((1, 1), (3, 1), (2, 4), (10 ** 20, 1)):
            sums = [0] * 6
            for _ in range(9):
                for at, node in enumerate(self.told.nodes):
                    for _, stride, onto in moves(self.make, "A", self.calls, node):
                        to = self.told.nodes.index(onto)
                        sums[to] = max(sums[to], sums[at] + pace[1] * stride - pace[0])
            self.assertIsNone(self.judge(sums, pace))

    def test_wrong_things(self):
        right = list(self.told.potentials)
        for potentials in (None, 0, (), right[:-1], [*right, 0], [None, *right[1:]], [False, *right[1:]], "000000",
                           [0.0, *right[1:]], ["0", *right[1:]], {}, [right]):
            self.assertEqual(self.judge(potentials), -1)


if __name__ == "__main__":
    unittest.main()
