"""[49] callings told back from what was seen of a group."""

import unittest

from helpers import FREE, WALK, all_texts, hears, raised, random_make, random_plan, seeded, two_kinds, walkers
from tailheard.errors import BadLooks, BadSight, BadSign, Unknown
from tailheard.makes import Make
from tailheard.plans import Plan
from tailheard.plantext import read_plan
from tailheard.toldcallings import ToldCalling

MAKE = walkers()


def looks_along(make, looks, name, text):
    """What is seen of a group that hears a string."""
    own = dict(zip(make.all_names, looks))[name]
    standing, seen = 0, ""
    for sign in text:
        standing = make[name][standing][2][("." + make.words).index(sign)]
        seen += own[standing]
    return seen


class ToldTest(unittest.TestCase):
    def test_fits(self):
        told = ToldCalling(MAKE, ["rw"], "A", FREE, "wwr")
        self.assertEqual((told.number, told.first, told.last), (2, "a.b", "aab"))
        self.assertEqual(told.sure, ("a", None, "b"))
        self.assertEqual(list(told.each_fit()), ["a.b", "aab"])
        for text in ("a.b", "aab"):
            self.assertIn(text, told)
        for text in ("", "a", "a.", "a..", "abb", "a.bb", "b.a", "xyz", "..."):
            self.assertNotIn(text, told)

    def test_things_that_are_no_strings(self):
        told = ToldCalling(MAKE, ["rw"], "A", FREE, "wr")
        for thing in (None, 1, True, ("a", "b"), ["a", "b"], {"a": 1, "b": 2}, b"ab"):
            self.assertIs(thing in told, False)
        self.assertIs("ab" in told, True)

    def test_no_fit(self):
        for sights in ("x", "rwx", "wwz"):
            told = ToldCalling(MAKE, ["rw"], "A", FREE, sights)
            self.assertEqual((told.number, told.first, told.last), (0, None, None))
            self.assertEqual(told.sure, (None,) * len(sights))
            self.assertEqual(list(told.each_fit()), [])
            self.assertNotIn("a" * len(sights), told)
        told = ToldCalling(MAKE, ["rw"], "A", read_plan("b"), "w")
        self.assertEqual((told.number, told.sure), (0, (None,)))

    def test_no_sights(self):
        told = ToldCalling(MAKE, ["rw"], "A", read_plan("a"), "")
        self.assertEqual((told.number, told.first, told.last, told.sure), (1, "", "", ()))
        self.assertEqual(list(told.each_fit()), [""])
        self.assertIn("", told)
        self.assertNotIn(".", told)

    def test_great_numbers(self):
        make = Make("abcd", [("A", 1, ((0, 1, (0,) * 5),))])
        free = Plan([[(sign, 0) for sign in ".abcd"]])
        told = ToldCalling(make, ["x"], "A", free, "x" * 30)
        self.assertEqual((told.number, told.first, told.last), (5 ** 30, "." * 30, "d" * 30))
        self.assertEqual(told.sure, (None,) * 30)
        found = []
        for text in told.each_fit():
            found.append(text)
            if len(found) == 7:
                break
        self.assertEqual(found, ["." * 29 + sign for sign in ".abcd"] + ["." * 28 + "a" + sign for sign in ".a"])
        self.assertIn("abcd." * 6, told)

    def test_strings_with_two_hearing_states_are_one_fit(self):
        # A silence goes on in the plan, or the calling has ended: that is one and the same string.
        plan = Plan([[(".", 0), ("a", 0)]])
        told = ToldCalling(Make("a", [("A", 1, ((0, 1, (0, 0)),))]), ["x"], "A", plan, "xxx")
        self.assertEqual(told.number, 8)
        self.assertEqual(len(list(told.each_fit())), 8)

    def test_plans_whose_strings_end(self):
        told = ToldCalling(MAKE, ["rw"], "A", read_plan("ab"), "wrrr")
        self.assertEqual((told.number, told.first, told.sure), (1, "ab..", ("a", "b", ".", ".")))
        self.assertEqual(ToldCalling(MAKE, ["rw"], "A", read_plan("ab"), "wrrw").number, 0)
        self.assertEqual(ToldCalling(MAKE, ["rw"], "A", read_plan("ab|a"), "www").number, 1)

    def test_iterated_twice(self):
        told = ToldCalling(MAKE, ["rw"], "A", FREE, "wwwr")
        first = list(told.each_fit())
        self.assertEqual(first, list(told.each_fit()))
        self.assertEqual((len(first), first), (told.number, sorted(first)))

    def test_against_a_plain_looker(self):
        rng = seeded(531)
        numbers = []
        for _ in range(120):
            make = random_make(rng, kinds=2)
            calls = random_plan(rng, ".ab", share=0.6)
            looks = ["".join(rng.choice("xy") for _ in make[name]) for name in make]
            name = rng.choice(make.all_names)
            long = rng.randint(0, 6)
            heard = [text for text in all_texts(".ab", long) if len(text) == long and hears(calls, text)]
            sights = looks_along(make, looks, name, rng.choice(heard))
            if sights and rng.random() < 0.2:
                sights = sights[:-1] + rng.choice("xy")
            fits = [text for text in heard if looks_along(make, looks, name, text) == sights]
            told = ToldCalling(make, looks, name, calls, sights)
            numbers.append(len(fits))
            self.assertEqual(told.number, len(fits))
            self.assertEqual(list(told.each_fit()), sorted(fits))
            self.assertEqual((told.first, told.last), (min(fits), max(fits)) if fits else (None, None))
            sure = [{text[at] for text in fits} for at in range(long)]
            self.assertEqual(told.sure, tuple(each.pop() if len(each) == 1 else None for each in sure))
            for text in all_texts(".ab", min(long + 1, 5)):
                self.assertEqual(text in told, text in fits)
        self.assertTrue({0, 1} < set(numbers))

    def test_errors(self):
        make = two_kinds()
        for looks in ((), ("xy",), None):
            self.assertEqual(raised(BadLooks, ToldCalling, make, looks, "C", None, None).number, -1)
        self.assertEqual(raised(BadLooks, ToldCalling, make, ("xy", "x"), "C", None, None).number, 1)
        looks = ["xy", "zz"]
        self.assertEqual(raised(Unknown, ToldCalling, make, looks, "C", Plan([[("c", 0)]]), None).name, "C")
        self.assertEqual(raised(BadSign, ToldCalling, make, looks, "A", Plan([[("c", 0)]]), None).sign, "c")
        for sights, number in ((None, -1), (True, -1), (["x"], -1), ("x" * 31, -1), ("X" * 31, -1), ("xX", 1), (".", 0),
                               ("xy z", 2), (b"x", -1)):
            self.assertEqual(raised(BadSight, ToldCalling, make, looks, "A", FREE, sights).number, number)
        self.assertEqual(len(ToldCalling(make, looks, "A", FREE, "x" * 30).sure), 30)


class SameDrillTest(unittest.TestCase):
    def test_looks_are_told_by_the_order_of_names(self):
        make = Make("ab", [("B", 1, WALK), ("A", 1, ((0, 1, (0, 0, 0)),))])
        self.assertEqual(ToldCalling(make, ["x", "rw"], "B", FREE, "w").first, "a")
        self.assertEqual(raised(BadLooks, ToldCalling, make, ["rw", "x"], "B", FREE, "w").number, 0)


if __name__ == "__main__":
    unittest.main()
