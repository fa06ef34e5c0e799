"""[11] betweens, steps, changes, their order."""

import unittest

from helpers import (FREE, crowd, gap_behind, heard_texts, raised, random_make, random_plan, seeded, two_kinds,
                     walkers)
from tailheard.betweens import Betweens
from tailheard.errors import BadSign, NoBetween, TooMany, Unknown
from tailheard.heard import hearing_states
from tailheard.makes import Make
from tailheard.plans import Plan
from tailheard.plantext import read_plan


class BetweensTest(unittest.TestCase):
    def test_two_walkers(self):
        plan = read_plan("a.*b")
        told = Betweens(walkers(), "A", "A", plan)
        self.assertEqual(told.make, walkers())
        self.assertEqual((told.ahead, told.behind, told.calls), ("A", "A", plan))
        self.assertEqual(list(told), [(0, 0, 0, "."), (1, 1, 0, "a"), (1, 1, 1, "."), (2, 0, 1, "b"), (-1, 0, 0, ".")])
        self.assertEqual(len(told), 5)
        self.assertEqual([told[between] for between in told], ["", "a", "a.", "ab", "ab."])

    def test_steps(self):
        told = Betweens(walkers(), "A", "A", read_plan("a.*b"))
        self.assertEqual(told.onward((0, 0, 0, ".")), (("a", 1, (1, 1, 0, "a")),))
        self.assertEqual(told.onward((1, 1, 0, "a")), ((".", 0, (1, 1, 1, ".")), ("b", -1, (2, 0, 1, "b"))))
        self.assertEqual(told.onward([2, 0, 1, "b"]), ((".", 0, (-1, 0, 0, ".")),))
        self.assertEqual(told.onward((-1, 0, 0, ".")), ((".", 0, (-1, 0, 0, ".")),))

    def test_two_steps_with_one_sign(self):
        told = Betweens(walkers(), "A", "A", FREE)
        self.assertEqual(list(told)[:3], [(0, 0, 0, "."), (-1, 0, 0, "."), (0, 1, 0, "a")])
        self.assertEqual([told[between] for between in list(told)[:3]], ["", ".", "a"])
        self.assertEqual(told.onward((0, 0, 0, "."))[:2], ((".", 0, (-1, 0, 0, ".")), (".", 0, (0, 0, 0, "."))))
        # `a.` leads to two betweens, told ascending.
        both = [between for between in told if told[between] == "a."]
        self.assertEqual(both, [(-1, 1, 1, "."), (0, 1, 1, ".")])

    def test_changes_of_bodies(self):
        make = two_kinds()
        told = Betweens(make, "B", "A", read_plan("a"))
        self.assertEqual(told.onward((0, 0, 0, "..")), (("a", -2, (1, 1, 0, ".a")),))
        self.assertEqual(told.onward((1, 1, 0, ".a")), ((".", 2, (-1, 0, 0, "a.")),))
        self.assertEqual(told.onward((-1, 0, 0, "a.")), ((".", -1, (-1, 0, 1, "..")),))

    def test_looking_up(self):
        told = Betweens(walkers(), "A", "A", FREE)
        self.assertIs((0, 0, 0, ".") in told, True)
        self.assertIs([0, 0, 0, "."] in told, True)
        self.assertEqual(told[[0, 1, 0, "a"]], "a")
        for between in ((False, 0, 0, "."), (0, False, 0, "."), (0, 0, 0, ""), (0, 0, 0, ".."), (0, 0, 0),
                        (1, 0, 0, "."),
                        (0, 0, 0, ".", 0), (0, 0, 1, "a"), None, True, 0, ".", (), [], [None], ([0], 0, 0, "."),
                        {0: 1}, (0, 0, 0, None), (-2, 0, 0, "."), ("0", 0, 0, "."), (0, 0, 0, ["."])):
            self.assertIs(between in told, False, between)
            self.assertIs(raised(NoBetween, lambda: told[between]).between, between)
            self.assertIs(raised(NoBetween, told.onward, between).between, between)
        self.assertEqual(len(told), len(list(told)))

    def test_against_plain_lookers(self):
        rng = seeded(15)
        for _ in range(60):
            make = random_make(rng, stride=2)
            calls = random_plan(rng, ".ab", share=0.6)
            ahead, behind = rng.choice(make.all_names), rng.choice(make.all_names)
            told = Betweens(make, ahead, behind, calls)
            lag = make.lag_of(ahead)
            firsts = {}
            for text in heard_texts(calls, ".ab", 5):
                gap, first, second = gap_behind(make, ahead, behind, text)
                window = ("." * lag + text)[-lag:]
                for state in hearing_states(calls, text):
                    firsts.setdefault((state, first, second, window), text)
                    for sign, change, onto in told.onward((state, first, second, window)):
                        further, one, two = gap_behind(make, ahead, behind, text + sign)
                        self.assertEqual((change, onto[1:3]), (further - gap, (one, two)))
                        self.assertIn(onto[0], hearing_states(calls, text + sign))
            self.assertEqual({each: told[each] for each in told if len(told[each]) <= 5}, firsts)
            self.assertEqual(list(told), sorted(told, key=lambda each: (len(told[each]), told[each], each)))
            for between in told:
                self.assertEqual(told.onward(between), tuple(sorted(told.onward(between))))

    def test_six_hundred(self):
        make, calls = crowd(600)
        self.assertEqual(len(Betweens(make, "A", "B", calls)), 600)
        make, calls = crowd(601)
        self.assertEqual(raised(TooMany, Betweens, make, "A", "B", calls).word, "between")
        # What counts is the lag of the kind ahead.
        self.assertLess(len(Betweens(make, "C", "A", calls)), 100)

    def test_long_strings(self):
        make = Make("a", [("A", 1, ((0, 1, (0, 0)),))])
        calls = Plan([[(".", at + 1)] for at in range(59)] + [[]], [59])
        told = Betweens(make, "A", "A", calls)
        self.assertEqual([told[between] for between in told], ["." * many for many in range(61)])

    def test_order_of_errors(self):
        make = walkers()
        bad = Plan([[("a", 0), ("c", 0)], [("d", 0)]])
        for name in ("B", "AA", "", None, True, ["A"]):
            self.assertIs(raised(Unknown, Betweens, make, name, "?", bad).name, name)
            self.assertIs(raised(Unknown, Betweens, make, "A", name, bad).name, name)
        self.assertEqual(raised(BadSign, Betweens, make, "A", "A", bad).sign, "c")


if __name__ == "__main__":
    unittest.main()
