"""[3] makes."""

import unittest

from helpers import STRETCH, WALK, raised, two_kinds
from tailheard.drills import Drill
from tailheard.errors import BadKind, BadSeat, BadSpace, BadWords, Twice, Unknown
from tailheard.makes import Make

KIND = ("A", 1, WALK)


class JudgeTest(unittest.TestCase):
    def test_words(self):
        for words in ("", "ba", "abcde", "A", None, True, ["a"]):
            self.assertIs(raised(BadWords, Make, words, None, None, None).words, words)

    def test_whole_kinds(self):
        for kinds in ((), [], None, 0, "A", {"A": KIND}, tuple((name, 1, WALK) for name in "ABCDE")):
            self.assertEqual(raised(BadKind, Make, "ab", kinds).number, -1)
        self.assertEqual(len(Make("ab", tuple((name, 1, WALK) for name in "ABCD"))), 4)

    def test_each_kind(self):
        bad = [None, 0, "ABC", (), ("A", 1), ("A", 1, WALK, 0), ("a", 1, WALK), ("AB", 1, WALK), ("", 1, WALK),
               (".", 1, WALK), (None, 1, WALK), (["A"], 1, WALK), ("A", 0, WALK), ("A", 4, WALK), ("A", True, WALK),
               ("A", "1", WALK), ("A", 1, ()), ("A", 1, None), ("A", 1, "ab"), ("A", 1, ((1, 1, (0, 0, 0)),)),
               ("A", 1, ((0, 1, (0, 0)),)), ("A", 1, WALK + ((0, 1, (0, 0, 3)),)), ("A", 1, Drill("ab", WALK))]
        for kind in bad:
            self.assertEqual(raised(BadKind, Make, "ab", (("B", 3, WALK), kind)).number, 1, kind)
            self.assertEqual(raised(BadKind, Make, "ab", (kind, kind), None, None).number, 0, kind)
        for lag in (1, 3):
            self.assertEqual(Make("ab", [("Z", lag, WALK)]).lag_of("Z"), lag)

    def test_form_goes_ahead_of_twice(self):
        self.assertEqual(raised(BadKind, Make, "ab", (KIND, KIND, None)).number, 2)
        self.assertEqual(raised(Twice, Make, "ab", (KIND, ("B", 1, WALK), ("B", 2, WALK), KIND), -1, 0).name, "B")

    def test_space(self):
        for space in (-1, 21, True, False, None, "1", 10 ** 39):
            self.assertIs(raised(BadSpace, Make, "ab", [KIND], space, None).space, space)
        self.assertEqual(Make("ab", [KIND], 0).space, 0)
        self.assertEqual(Make("ab", [KIND], 20).space, 20)
        self.assertEqual(Make("ab", [KIND]).space, 1)

    def test_seats(self):
        for seats in (None, 0, True, "AA", {}):
            self.assertEqual(raised(BadSeat, Make, "ab", [KIND], 1, seats).number, -1)
        good = ("A", "A", 0)
        for seat in (None, 0, "AA1", (), ("A", "A"), ("A", "A", 1, 1), ("A", "B", 1), ("B", "A", 1),
                     ("A", "A", -1), ("A", "A", 41),
                     ("A", "A", True), ("A", "A", None), ("", "A", 1), ("AA", "A", 1), (["A"], "A", 1), good):
            self.assertEqual(raised(BadSeat, Make, "ab", [KIND], 1, (good, seat)).number, 1, seat)
        self.assertEqual(Make("ab", [KIND], 1, [("A", "A", 40)]).seat_of("A", "A"), 40)
        kinds = [KIND, ("B", 1, WALK)]
        seats = (("A", "B", 1), ("B", "A", 2), ("B", "B", 3), ("B", "A", 2))
        self.assertEqual(raised(BadSeat, Make, "ab", kinds, 1, seats).number, 3)
        self.assertEqual(Make("ab", kinds, 1, seats[:3]).seats, seats[:3])


class MakeTest(unittest.TestCase):
    def test_attributes(self):
        kinds = [["B", 2, [list(row) for row in STRETCH]], ["A", 1, WALK]]
        seats = [["A", "B", 7]]
        make = Make("ab", kinds, 3, seats)
        kinds.pop()
        kinds[0][2][0][0] = 3
        seats[0][2] = 40
        self.assertEqual(make.words, "ab")
        self.assertEqual(make.kinds, (("B", 2, STRETCH), ("A", 1, WALK)))
        self.assertEqual(make.space, 3)
        self.assertEqual(make.seats, (("A", "B", 7),))
        self.assertEqual(Make("ab", [KIND]).seats, ())

    def test_names(self):
        make = two_kinds()
        self.assertEqual(make.all_names, "AB")
        self.assertEqual(list(make), ["A", "B"])
        self.assertEqual(len(make), 2)
        self.assertTrue("A" in make and "B" in make)
        for name in ("", "C", "AB", "a", ".", None, True, 0, ["A"], ("A",), ["A", "B"]):
            self.assertIs(name in make, False)
            for call in (lambda: make[name], lambda: make.lag_of(name), lambda: make.seat_of(name, "?"),
                         lambda: make.seat_of("A", name)):
                self.assertIs(raised(Unknown, call).name, name)

    def test_drills_lags_seats(self):
        make = two_kinds(space=5, seats=[("A", "B", 7), ("B", "B", 0)])
        self.assertEqual(make["A"], Drill("ab", WALK))
        self.assertEqual(make["B"], Drill("ab", STRETCH))
        self.assertEqual((make.lag_of("A"), make.lag_of("B")), (1, 2))
        self.assertEqual([make.seat_of(one, two) for one in "AB" for two in "AB"], [5, 7, 5, 0])

    def test_equality(self):
        self.assertEqual(two_kinds(), two_kinds())
        self.assertNotEqual(two_kinds(), two_kinds(space=2))
        self.assertNotEqual(two_kinds(), two_kinds(seats=[("A", "A", 1)]))
        self.assertNotEqual(two_kinds(), Make("ab", [("A", 1, WALK), ("B", 2, STRETCH)]))
        self.assertNotEqual(two_kinds(), Make("ac", two_kinds().kinds))
        self.assertFalse(two_kinds() == "AB")

    def test_reseated(self):
        make = two_kinds(space=5, seats=[("A", "B", 7)])
        other = make.reseated([["B", "A", 9]])
        self.assertEqual(other, two_kinds(space=5, seats=(("B", "A", 9),)))
        self.assertEqual(make.seats, (("A", "B", 7),))
        self.assertEqual(make.reseated(()).seats, ())
        self.assertEqual(raised(BadSeat, make.reseated, None).number, -1)
        self.assertEqual(raised(BadSeat, make.reseated, [("A", "A", 1), ("A", "C", 1)]).number, 1)
        self.assertEqual(make, two_kinds(space=5, seats=[("A", "B", 7)]))


if __name__ == "__main__":
    unittest.main()
