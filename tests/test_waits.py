"""[17] spaced plans, waits and their breaches."""

import unittest

from helpers import FREE, WALK, all_texts, bears, crowd, raised, random_make, random_plan, seeded, two_kinds, walkers
from tailheard.errors import BadSign, BadWait, BadWish, BadWords, TooMany
from tailheard.kept import Kept
from tailheard.makes import Make
from tailheard.plans import Plan
from tailheard.waits import Waits, spaced_plan

ANY = Plan([[("A", 0)]])


class SpacedPlanTest(unittest.TestCase):
    def test_states(self):
        self.assertEqual(spaced_plan("ab", 0), Plan([[(".", 0), ("a", 0), ("b", 0)]]))
        self.assertEqual(spaced_plan("z", 2), Plan([[(".", 0), ("z", 2)], [(".", 0)], [(".", 1)]]))
        self.assertEqual(len(spaced_plan("abcd", 12)), 13)
        self.assertEqual(spaced_plan("ab", 12).ends, tuple(range(13)))

    def test_strings(self):
        for wait in (0, 1, 2, 3):
            plan = spaced_plan("ab", wait)
            for text in all_texts(".ab", 6):
                places = [at for at, sign in enumerate(text) if sign != "."]
                far = all(two - one > wait for one, two in zip(places, places[1:]))
                self.assertEqual(bears(plan, text), far)

    def test_errors(self):
        for words in ("", "ba", "aa", "abcde", "A", ".", None, True, ["a"], 0):
            self.assertIs(raised(BadWords, spaced_plan, words, -1).words, words)
        for wait in (-1, 13, True, False, None, "1", [1]):
            self.assertIs(raised(BadWait, spaced_plan, "ab", wait).wait, wait)


class WaitsTest(unittest.TestCase):
    def test_least_wait(self):
        # Calling `a` and `b` by turns, a beat apart, makes no gap greater than 2; `a` alone is walked off.
        told = Waits(walkers(), ANY, "ab", (1, 2))
        self.assertEqual((told.least_wait, told.breaches), (0, ()))
        self.assertEqual((len(told), list(told)), (0, []))

    def test_breaches_of_smaller_waits(self):
        # Each word in turn moves the group one pace ahead for a beat, without a halt behind it.
        rows = ((0, 1, (0, 1)), (1, 1, (0, 1)))
        make = Make("a", [("A", 3, rows)])
        told = Waits(make, ANY, "a", (1, 2))
        self.assertEqual(told.least_wait, 2)
        self.assertEqual(told.breaches, (("AA", "aa", 0), ("AA", "a.a", 0)))
        self.assertEqual((len(told), list(told)), (2, list(told.breaches)))
        for wait in range(4):
            kept = Kept(make, ANY, spaced_plan("a", wait), (1, 2))
            self.assertEqual(bool(kept), wait >= 2)

    def test_no_least_wait(self):
        told = Waits(walkers(), ANY, "a", (5, 5))
        self.assertIsNone(told.least_wait)
        self.assertEqual(told.breaches, (("AA", "", 0),) * 13)
        walking = Waits(Make("ab", [("A", 1, WALK), ("S", 1, ((0, 1, (0, 0, 0)),))]), Plan.bearing(["AS"]), "a", (0, 9))
        self.assertIsNone(walking.least_wait)
        self.assertEqual(len(walking), 13)
        self.assertEqual(walking.breaches[12], ("AS", "a" + "." * 8, 0))

    def test_the_greatest_wait(self):
        # Twelve beats behind a word the group is at rest again; a word before turns it back for good.
        rows = [[0, 1, [0, 1]]] + [[0, 1, [at + 1, 13]] for at in range(1, 5)]
        rows = rows[:1] + [[0, 1, [2, 5]], [0, 1, [3, 5]], [0, 1, [4, 5]], [0, 1, [0, 5]], [0, 12, [5, 5]]]
        make = Make("a", [("A", 1, rows)], 20)
        told = Waits(make, ANY, "a", (10, 60))
        self.assertEqual(told.least_wait, 4)
        self.assertEqual([breach[1] for breach in told], ["aa", "a.a", "a..a", "a...a"])

    def test_some_of_the_words(self):
        make = two_kinds(space=3)
        for words in ("a", "b", "ab"):
            told = Waits(make, Plan([[("A", 0), ("B", 0)]]), words, (0, 60))
            for wait, breach in enumerate(told):
                self.assertEqual(Kept(make, Plan([[("A", 0), ("B", 0)]]), spaced_plan(words, wait), (0, 60)).breach,
                                 breach)

    def test_against_kept(self):
        rng = seeded(21)
        found = set()
        for _ in range(40):
            make = random_make(rng)
            columns = random_plan(rng, make.all_names)
            wish = (0, rng.randint(3, 9))
            told = Waits(make, columns, "ab", wish)
            kepts = [Kept(make, columns, spaced_plan("ab", wait), wish) for wait in range(13)]
            least = next((wait for wait, kept in enumerate(kepts) if kept), None)
            self.assertEqual(told.least_wait, least)
            self.assertEqual(list(told), [kept.breach for kept in kepts[:least]])
            found.add(least)
        self.assertGreater(len(found), 1)

    def test_errors(self):
        make = walkers()
        self.assertEqual(raised(BadSign, Waits, make, FREE, "", None).sign, ".")
        for words in ("", "ba", "abcde", "c", "abc", "A", None, True, ["a"]):
            self.assertIs(raised(BadWords, Waits, make, ANY, words, None).words, words)
        for wish in (None, (0,), (2, 1), (0, 61), (True, 2)):
            self.assertIs(raised(BadWish, Waits, make, ANY, "a", wish).wish, wish)
        self.assertEqual(Waits(make, ANY, "a", [0, 60]).least_wait, 0)

    def test_too_many(self):
        # With four words and lag 3 there are 125 windows; six standings that go round make them too many.
        ring = [[0, 1, [0, 1, 1, 1, 1]]] + [[0, 1, [at, (at + 1) % 6] + [(at + 1) % 6] * 3] for at in range(1, 6)]
        make = Make("abcd", [("A", 3, ring), ("B", 1, [[0, 1, [0] * 5]])])
        columns = Plan.bearing(["AB"])
        self.assertEqual(raised(TooMany, Waits, make, columns, "abcd", (0, 60)).word, "between")
        self.assertEqual(raised(TooMany, Waits, make, columns, "abcd", (5, 60)).word, "between")
        self.assertEqual(Waits(make, columns, "a", (0, 60)).least_wait, 0)
        # Greater waits are not looked at: those of two words would have too many betweens.
        self.assertEqual(Waits(make, Plan.bearing(["BA"]), "abcd", (0, 60)).least_wait, 0)


if __name__ == "__main__":
    unittest.main()
