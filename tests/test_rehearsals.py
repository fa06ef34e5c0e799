"""[53] rehearsals, deeds, trials."""

import unittest

from helpers import raised, random_make, seeded, two_kinds, walkers
from tailheard.columns import Column
from tailheard.errors import BadBeats, BadCalling
from tailheard.rehearsals import Rehearsal, Trial, rehearsed
from tailheard.runs import Run


def three():
    return Rehearsal(Column(walkers(), "AAA"))


class RehearsalTest(unittest.TestCase):
    def test_at_first(self):
        column = Column(walkers(), "AAA")
        rehearsal = Rehearsal(column)
        self.assertIs(rehearsal.column, column)
        self.assertEqual((rehearsal.called, rehearsal.moment), ("", 0))
        self.assertEqual(rehearsal.standings_now(), (0, 0, 0))
        self.assertEqual(rehearsal.fronts_now(), (0, -3, -6))
        self.assertEqual(rehearsal.gaps_now(), (1, 1))

    def test_deeds(self):
        rehearsal = three()
        self.assertEqual(rehearsal.call("a"), (2, 1))
        self.assertEqual((rehearsal.called, rehearsal.moment), ("a", 1))
        self.assertEqual(rehearsal.pause(1), (2, 2))
        self.assertEqual(rehearsal.call("b."), (1, 1))
        self.assertEqual(rehearsal.settle(), (1, 1))
        self.assertEqual((rehearsal.called, rehearsal.moment), ("a.b...", 6))
        self.assertEqual(rehearsal.fronts_now(), (2, -1, -4))
        self.assertEqual((rehearsal.call(""), rehearsal.pause(0)), ((1, 1), (1, 1)))
        self.assertEqual(rehearsal.moment, 6)

    def test_against_runs(self):
        rng = seeded(270)
        for _ in range(40):
            make = random_make(rng, kinds=3, stride=2)
            column = Column(make, "".join(rng.choice(make.all_names) for _ in range(rng.randint(1, 5))))
            rehearsal = Rehearsal(column)
            called = ""
            for _ in range(5):
                more = "".join(rng.choice(".ab") for _ in range(rng.randint(0, 4)))
                called += more
                kind = rng.choice(["call", "pause", "settle"])
                told = rehearsal.call(more)
                if kind == "pause":
                    called += "..."
                    told = rehearsal.pause(3)
                elif kind == "settle":
                    called += "." * column.delay_row[-1]
                    told = rehearsal.settle()
                run = Run(column, called, len(called))
                beat = len(called)
                self.assertEqual((rehearsal.called, rehearsal.moment), (called, beat))
                self.assertEqual(told, run.gaps_at(beat))
                self.assertEqual(rehearsal.gaps_now(), run.gaps_at(beat))
                self.assertEqual(rehearsal.standings_now(), run.standings_at(beat))
                self.assertEqual(rehearsal.fronts_now(), run.fronts_at(beat))

    def test_eight_hundred_signs(self):
        rehearsal = three()
        rehearsal.call("a" * 400)
        self.assertEqual(rehearsal.call("." * 400), (1 + 1, 1 + 1))
        self.assertEqual((rehearsal.moment, rehearsal.fronts_now()[0]), (800, 800))

    def test_settle(self):
        make = two_kinds()
        rehearsal = Rehearsal(Column(make, "BBA"))
        rehearsal.settle()
        self.assertEqual(rehearsal.called, "....")
        alone = Rehearsal(Column(make, "B"))
        self.assertEqual((alone.settle(), alone.called), ((), ""))

    def test_errors(self):
        rehearsal = three()
        rehearsal.call("a")
        for calling, number in (("ac", 1), ("A", 0), (None, -1), (["a"], -1), ("." * 401, -1), (True, -1)):
            self.assertEqual(raised(BadCalling, rehearsal.call, calling).number, number)
        for beats in (-1, 201, True, None, "1", 1.0):
            self.assertIs(raised(BadBeats, rehearsal.pause, beats).beats, beats)
        self.assertEqual(rehearsal.called, "a")
        rehearsal.pause(200)
        self.assertEqual(rehearsal.moment, 201)

    def test_copies(self):
        rehearsal = three()
        rehearsal.call("a")
        other = rehearsal.copy()
        self.assertTrue(other == rehearsal)
        other.call("b")
        self.assertEqual((rehearsal.called, other.called), ("a", "ab"))
        self.assertIs(other == rehearsal, False)
        self.assertIs(Rehearsal(Column(walkers(), "AA")) == three(), False)
        self.assertIs(three() == None, False)  # noqa: E711
        self.assertIs(three() == Rehearsal(Column(walkers(), "AAA")), True)
        self.assertIsNot(rehearsal.copy(), rehearsal)
        self.assertEqual(other.column, rehearsal.column)


class TrialTest(unittest.TestCase):
    def test_a_block(self):
        rehearsal = three()
        rehearsal.call("a")
        with Trial(rehearsal) as held:
            self.assertIs(held, rehearsal)
            held.call("bb")
            self.assertEqual(rehearsal.called, "abb")
        self.assertEqual(rehearsal.called, "a")
        self.assertEqual(rehearsal.gaps_now(), (2, 1))

    def test_blocks_within_one_another(self):
        rehearsal = three()
        with Trial(rehearsal):
            rehearsal.call("a")
            with Trial(rehearsal):
                rehearsal.call("b")
                with Trial(rehearsal) as held:
                    held.pause(3)
                    self.assertEqual(rehearsal.called, "ab...")
                self.assertEqual(rehearsal.called, "ab")
            self.assertEqual(rehearsal.called, "a")
            rehearsal.settle()
        self.assertEqual(rehearsal.called, "")

    def test_used_again(self):
        rehearsal = three()
        trial = Trial(rehearsal)
        for text in ("a", "b"):
            rehearsal.call(text)
            with trial:
                rehearsal.call("aa")
            with trial as held:
                held.pause(1)
        self.assertEqual(rehearsal.called, "ab")
        # The same trial within itself.
        with trial:
            rehearsal.call("a")
            with trial:
                rehearsal.call("b")
                with trial:
                    rehearsal.call("b")
                self.assertEqual(rehearsal.called, "abab")
            self.assertEqual(rehearsal.called, "aba")
        self.assertEqual(rehearsal.called, "ab")

    def test_left_by_an_error(self):
        rehearsal = three()
        rehearsal.call("a")
        trial = Trial(rehearsal)
        with self.assertRaises(BadCalling):
            with trial:
                rehearsal.call("b")
                with trial:
                    rehearsal.call("b")
                    rehearsal.call("c")
        self.assertEqual(rehearsal.called, "a")
        with self.assertRaises(ZeroDivisionError):
            with trial:
                rehearsal.pause(9)
                raise ZeroDivisionError
        self.assertEqual(rehearsal.called, "a")

    def leave(self, rehearsal):
        with Trial(rehearsal):
            return rehearsal.call("a")

    def test_left_by_a_return(self):
        rehearsal = three()
        self.assertEqual(self.leave(rehearsal), (2, 1))
        self.assertEqual(rehearsal.called, "")


class RehearsedTest(unittest.TestCase):
    def test_deeds(self):
        rehearsal = three()
        rehearsal.call("a")
        told = rehearsed(rehearsal, (("call", "."), ("pause", 2), ("call", "b"), ("settle",)))
        self.assertEqual(told, ((2, 2), (2, 2), (1, 2), (1, 1)))
        self.assertEqual(rehearsal.called, "a")
        self.assertEqual(rehearsed(rehearsal, ()), ())

    def test_trials(self):
        rehearsal = three()
        deeds = [["call", "a"], ["trial", [["call", "b"], ["trial", []], ("trial", (("settle",),))]], ("pause", 1)]
        self.assertEqual(rehearsed(rehearsal, deeds), ((2, 1), ((1, 2), (), ((1, 1),)), (2, 2)))
        self.assertEqual((rehearsal.called, deeds[0]), ("", ["call", "a"]))
        six = ()
        for _ in range(6):
            six = (("call", "a"), ("trial", six))
        told = rehearsed(rehearsal, six)
        for number in range(6):
            self.assertEqual(told[0], ((2, 1), (2, 2))[number > 0])
            told = told[1]
        self.assertEqual(told, ())

    def test_errors(self):
        rehearsal = three()
        rehearsal.call("a")
        self.assertEqual(raised(BadCalling, rehearsed, rehearsal, [("call", "b"), ("trial", [("call", "bx")])]).number, 1)
        self.assertEqual(rehearsal.called, "a")
        self.assertEqual(raised(BadBeats, rehearsed, rehearsal, [("pause", 200), ("pause", 201), None]).beats, 201)
        self.assertEqual(rehearsal.called, "a")
        with Trial(rehearsal) as held:
            held.call("b")
            self.assertEqual(raised(BadBeats, rehearsed, held, [("call", "b"), ("pause", True)]).beats, True)
            self.assertEqual(held.called, "ab")
        self.assertEqual(rehearsal.called, "a")


if __name__ == "__main__":
    unittest.main()
