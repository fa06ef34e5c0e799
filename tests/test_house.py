"""[52] the house: things kept by their names, deeds, copies."""

import unittest

from helpers import FREE, raised, walkers
from tailheard.crossings import Crossing
from tailheard.errors import BadName, TooMany, Twice, Unknown
from tailheard.house import House
from tailheard.plans import Plan
from tailheard.programs import Program

MAKE = walkers()
PROGRAM = Program("ab", [("say", "a")])
CROSSING = Crossing(2, [(0, 1)])
BAD_NAMES = ("", "abcdefghi", "A", "a1", "a b", ".", None, True, 3, ("a",), ["a"], b"a", {})


def furnished():
    house = House()
    for name, thing in (("make", MAKE), ("plan", FREE), ("program", PROGRAM), ("crossing", CROSSING)):
        house.keep(name, thing)
    return house


def numbered(number):
    """A name for each number."""
    return "".join("abcdefghij"[int(digit)] for digit in str(number))


class HouseTest(unittest.TestCase):
    def test_empty(self):
        house = House()
        self.assertEqual((len(house), list(house), house.deeds), (0, [], 0))
        self.assertNotIn("a", house)

    def test_things(self):
        house = furnished()
        self.assertEqual((len(house), list(house), house.deeds), (4, ["make", "plan", "program", "crossing"], 4))
        self.assertIs(house["make"], MAKE)
        self.assertEqual([house[name] for name in house], [MAKE, FREE, PROGRAM, CROSSING])
        self.assertIs("plan" in house, True)
        self.assertIs("plans" in house, False)

    def test_names_that_are_not_there(self):
        house = furnished()
        for name in BAD_NAMES + ("other", "makes"):
            self.assertIs(name in house, False)
            self.assertIs(raised(Unknown, house.__getitem__, name).name, name)

    def test_bad_names(self):
        house = furnished()
        for name in BAD_NAMES:
            self.assertIs(raised(BadName, house.keep, name, MAKE).name, name)
            self.assertIs(raised(BadName, house.strike, name).name, name)
        house.keep("abcdefgh", MAKE)
        self.assertEqual((len(house), house.deeds), (5, 5))

    def test_names_that_are_taken(self):
        house = furnished()
        self.assertEqual(raised(Twice, house.keep, "plan", MAKE).name, "plan")
        self.assertEqual((house["plan"], house.deeds), (FREE, 4))

    def test_strike(self):
        house = furnished()
        house.strike("plan")
        self.assertEqual((len(house), list(house), house.deeds), (3, ["make", "program", "crossing"], 5))
        self.assertNotIn("plan", house)
        self.assertEqual(raised(Unknown, house.__getitem__, "plan").name, "plan")
        self.assertEqual(raised(Unknown, house.strike, "plan").name, "plan")
        self.assertEqual(raised(Unknown, house.strike, "other").name, "other")
        self.assertEqual(house.deeds, 5)
        # A name can be given again, also to another thing; it comes behind the others then.
        house.keep("plan", CROSSING)
        self.assertEqual((list(house), house["plan"], house.deeds), (["make", "program", "crossing", "plan"], CROSSING, 6))

    def test_thirty_things(self):
        house = House()
        for number in range(30):
            house.keep(numbered(number), MAKE)
        self.assertEqual(raised(TooMany, house.keep, "more", MAKE).word, "thing")
        self.assertEqual((len(house), house.deeds, "more" in house), (30, 30, False))
        # A name that is kept goes ahead, and a bad one ahead of that.
        self.assertEqual(raised(Twice, house.keep, numbered(3), MAKE).name, numbered(3))
        self.assertEqual(raised(BadName, house.keep, "", MAKE).name, "")
        house.strike(numbered(7))
        house.keep("more", MAKE)
        self.assertEqual((len(house), house.deeds), (30, 32))

    def test_copies(self):
        house = furnished()
        house.strike("plan")
        other = house.copy()
        self.assertEqual((other, list(other), other.deeds), (house, list(house), 5))
        self.assertIsNot(other, house)
        other.keep("plan", FREE)
        self.assertEqual((len(house), house.deeds, len(other), other.deeds), (3, 5, 4, 6))
        self.assertNotEqual(house, other)
        house.keep("plan", FREE)
        self.assertEqual(house, other)
        house.strike("make")
        self.assertIn("make", other)

    def test_equal(self):
        self.assertIs(House() == House(), True)
        self.assertIs(furnished() == furnished(), True)
        one, two = House(), House()
        one.keep("x", MAKE)
        self.assertIs(one == two, False)
        two.keep("x", walkers())
        self.assertIs(one == two, True)
        two.strike("x")
        self.assertIs(one == two, False)
        two.keep("x", MAKE)
        # The same things are kept, but the deeds are others.
        self.assertEqual((list(one), list(two)), (["x"], ["x"]))
        self.assertIs(one == two, False)
        three = House()
        three.keep("x", Plan([[]]))
        self.assertIs(one == three, False)
        four, five = House(), House()
        for house, names in ((four, "yz"), (five, "zy")):
            for name in names:
                house.keep(name, MAKE)
        self.assertIs(four == five, False)
        for other in (None, 0, [], {"x": MAKE}):
            self.assertIs(one == other, False)


if __name__ == "__main__":
    unittest.main()
