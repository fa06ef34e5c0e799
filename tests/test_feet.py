"""[44] tunes, what is heard and from whom, feet, how far two feet are apart."""

import unittest

from helpers import plain_apart, plain_feet, raised, random_make, random_tune, seeded
from tailheard.columns import Column
from tailheard.errors import BadBands, BadCycle, BadEar, BadRelay, BadSlow, Unlike
from tailheard.feet import Tune, feet_at
from tailheard.makes import Make

STILL = ((0, 2, (0, 0)),)
MAKE = Make("a", [("B", 1, STILL), ("A", 1, ((0, 3, (0, 0)),))], 1, [("B", "A", 2)])
# Paces from front to front: B to B 3, B to A 4, A to A and A to B 4.
TUNE = Tune(MAKE, "B", 3, 10, 8)


def feet(groups, **more):
    told = {"bands": "B", "slow": 3, "cycle": 10, "earshot": 8, "relay": False, **more}
    return Tune(MAKE, **told).feet(Column(MAKE, groups))


class TuneTest(unittest.TestCase):
    def test_attributes(self):
        self.assertEqual((TUNE.bands, TUNE.slow, TUNE.cycle, TUNE.earshot, TUNE.relay), ("B", 3, 10, 8, False))
        self.assertIs(TUNE.make, MAKE)
        self.assertIs(Tune(MAKE, "AB", 0, 2, 0, True).relay, True)
        self.assertEqual(Tune(MAKE, "", 12, 60, 60, relay=False).bands, "")

    def test_bands(self):
        for bands in ("BA", "AA", "C", "ABC", "a", ".", None, True, ("A",), ["A"], 0):
            self.assertIs(raised(BadBands, Tune, MAKE, bands, None, None, None, None).bands, bands)

    def test_numbers(self):
        for slow in (-1, 13, True, None, "0", (0,)):
            self.assertIs(raised(BadSlow, Tune, MAKE, "B", slow, None, None, None).slow, slow)
        for cycle in (1, 0, 61, True, None, "2"):
            self.assertIs(raised(BadCycle, Tune, MAKE, "B", 0, cycle, None, None).cycle, cycle)
        for ear in (-1, 61, False, None, "0"):
            self.assertIs(raised(BadEar, Tune, MAKE, "B", 12, 2, ear, None).ear, ear)
        for relay in (0, 1, None, "", (), "True"):
            self.assertIs(raised(BadRelay, Tune, MAKE, "B", 12, 60, 60, relay).relay, relay)
            self.assertIs(raised(BadRelay, Tune, MAKE, "", 0, 2, 0, relay).relay, relay)

    def test_earshots_that_are_set(self):
        tune = Tune(MAKE, "B", 3, 10, 8)
        tune.earshot = 3
        self.assertEqual((tune.earshot, tune.feet(Column(MAKE, "BA"))), (3, (0, 0)))
        tune.earshot = 60
        self.assertEqual((tune.earshot, tune.feet(Column(MAKE, "BA"))), (60, (0, 2)))
        for ear in (-1, 61, True, None, "1"):
            with self.assertRaises(BadEar) as caught:
                tune.earshot = ear
            self.assertIs(caught.exception.ear, ear)
            self.assertEqual(tune.earshot, 60)
        tune.earshot = 0
        self.assertEqual(tune.earshot, 0)

    def test_equal(self):
        same = Tune(Make("a", [("B", 1, STILL), ("A", 1, ((0, 3, (0, 0)),))], 1, [("B", "A", 2)]), "B", 3, 10, 8)
        self.assertIs(TUNE == same, True)
        for other in (Tune(Make("a", MAKE.kinds), "B", 3, 10, 8), Tune(MAKE, "A", 3, 10, 8), Tune(MAKE, "B", 2, 10, 8),
                      Tune(MAKE, "B", 3, 11, 8), Tune(MAKE, "B", 3, 10, 7), Tune(MAKE, "B", 3, 10, 8, True), None, 3):
            self.assertIs(TUNE == other, False)
        same.earshot = 9
        self.assertIs(TUNE == same, False)


class FeetTest(unittest.TestCase):
    def test_heard(self):
        self.assertEqual(feet("BAAA"), (0, 2, 4, 4))
        self.assertEqual(feet("BAAA", earshot=7), (0, 2, 2, 2))
        self.assertEqual(feet("BAAA", earshot=12), (0, 2, 4, 6))
        self.assertEqual(feet("BAAA", earshot=0), (0, 0, 0, 0))
        self.assertEqual(feet("BAAA", slow=0), (0, 0, 0, 0))

    def test_an_earshot_that_just_reaches(self):
        self.assertEqual(feet("BA", earshot=4), (0, 2))
        self.assertEqual(feet("BA", earshot=3), (0, 0))

    def test_bands_ahead_alone(self):
        self.assertEqual(feet("AAB"), (0, 0, 0))
        # Only the last band ahead is heard, though an earlier one might be, too.
        self.assertEqual(feet("BBA", earshot=60), (0, 0, 2))
        self.assertEqual(feet("AAA", bands=""), (0, 0, 0))
        self.assertEqual(feet("A"), (0,))

    def test_relay(self):
        self.assertEqual(feet("BABA"), (0, 2, 0, 2))
        self.assertEqual(feet("BABA", relay=True), (0, 2, 4, 6))
        # A band that hears none begins anew, and who hears none goes by the group directly ahead.
        self.assertEqual(feet("BAABA", relay=True), (0, 2, 4, 0, 2))
        self.assertEqual(feet("BAABA", relay=True, earshot=12), (0, 2, 4, 6, 8))
        self.assertEqual(feet("BBB", relay=True, earshot=2), (0, 0, 0))
        self.assertEqual(feet("BBB", relay=True, earshot=3), (0, 9, 8))
        self.assertEqual(feet("BAAAB", relay=True), (0, 2, 4, 4, 0))

    def test_all_kinds_and_long_columns(self):
        self.assertEqual(feet("ABAB", bands="AB"), (0, 0, 0, 0))
        self.assertEqual(feet("A" * 60, bands="A", relay=True, earshot=4),
                         tuple(12 * at % 10 for at in range(60)))

    def test_columns_of_other_makes(self):
        equal = Make("a", [["B", 1, STILL], ["A", 1, ((0, 3, (0, 0)),)]], 1, [("B", "A", 2)])
        self.assertEqual(TUNE.feet(Column(equal, "BA")), (0, 2))
        for other in (Make("a", MAKE.kinds), Make("a", MAKE.kinds, 2, MAKE.seats)):
            self.assertEqual(raised(Unlike, TUNE.feet, Column(other, "BA")).word, "make")

    def test_against_a_plain_looker(self):
        rng = seeded(491)
        for _ in range(200):
            make = random_make(rng, kinds=rng.randint(1, 3))
            tune = random_tune(rng, make)
            groups = "".join(rng.choice(make.all_names) for _ in range(rng.randint(1, 12)))
            told = plain_feet(make, groups, [name in tune.bands for name in groups], tune.slow, tune.cycle,
                              tune.earshot, tune.relay)[0]
            self.assertEqual(tune.feet(Column(make, groups)), tuple(told))


class ApartTest(unittest.TestCase):
    def test_apart(self):
        self.assertEqual([Tune.apart(10, 0, foot) for foot in range(10)], [0, 1, 2, 3, 4, 5, 4, 3, 2, 1])
        self.assertEqual((Tune.apart(10, 9, 1), Tune.apart(10, 1, 9), TUNE.apart(2, 1, 0)), (2, 2, 1))
        for cycle in (2, 3, 7, 60):
            for one in range(cycle):
                for two in range(cycle):
                    self.assertEqual(Tune.apart(cycle, one, two), plain_apart(cycle, one, two))


class FeetAtTest(unittest.TestCase):
    def setUp(self):
        self.tune = Tune(MAKE, "B", 3, 10, 8)

    def test_told(self):
        column = Column(MAKE, "BAAA")
        self.assertEqual(feet_at(self.tune, column, [7, 8, 12, 7]),
                         ((0, 2, 2, 2), (0, 2, 4, 4), (0, 2, 4, 6), (0, 2, 2, 2)))
        self.assertEqual(self.tune, TUNE)
        self.assertEqual(feet_at(self.tune, column, ()), ())

    def test_bad_earshots(self):
        column = Column(MAKE, "BAAA")
        for ears in ([0, 61, 1], (-1,), [1, 2, True, None], ("7", 99), [[3]]):
            bad = [ear for ear in ears if isinstance(ear, bool) or not isinstance(ear, int) or not 0 <= ear <= 60][0]
            error = raised(BadEar, feet_at, self.tune, column, ears)
            self.assertIs(error.ear, bad)
            self.assertEqual((self.tune.earshot, self.tune), (8, TUNE))

    def test_other_makes_go_first(self):
        other = Column(Make("a", MAKE.kinds), "BA")
        for ears in ((), [99], [1]):
            self.assertEqual(raised(Unlike, feet_at, self.tune, other, ears).word, "make")
            self.assertEqual(self.tune.earshot, 8)


if __name__ == "__main__":
    unittest.main()
