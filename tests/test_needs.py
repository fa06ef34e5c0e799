"""[15] needs and the seated make."""

import unittest

from helpers import FREE, WALK, crowd, raised, random_make, random_plan, seeded, two_kinds, walkers
from tailheard.errors import BadLeast, BadSign, NoSeat, TooMany, Unknown
from tailheard.gaps import Gaps
from tailheard.heard import neighbours
from tailheard.kept import Kept
from tailheard.makes import Make
from tailheard.needs import need, seated
from tailheard.plans import Plan
from tailheard.plantext import read_plan

ANY = Plan([[("A", 0)]])
# The group ahead backs by one pace at each `b`; the one of the kind S stands.
BACK = ((0, 2, (0, 0, 1)), (-1, 2, (0, 0, 1)))
MAKE = Make("ab", [("B", 1, BACK), ("S", 1, ((0, 2, (0, 0, 0)),)), ("A", 1, WALK)])


class NeedTest(unittest.TestCase):
    def test_some(self):
        self.assertEqual(need(walkers(), "A", "A", FREE, 0), 0)
        self.assertEqual(need(walkers(space=20), "A", "A", FREE, 7), 7)
        self.assertEqual(need(MAKE, "B", "S", read_plan("b3"), 2), 5)
        self.assertEqual(need(MAKE, "B", "B", read_plan("b3"), 2), 3)
        self.assertEqual(need(MAKE, "S", "B", read_plan("b3"), 60), 60)

    def test_none(self):
        self.assertIsNone(need(MAKE, "B", "S", FREE, 0))
        self.assertIsNone(need(MAKE, "S", "A", read_plan("a.*"), 0))

    def test_seats_do_not_matter(self):
        for paces in (0, 3, 40):
            make = MAKE.reseated([("B", "S", paces)])
            self.assertEqual(need(make, "B", "S", read_plan("b3"), 2), 5)

    def test_however_great(self):
        self.assertEqual(need(MAKE, "B", "S", read_plan("(b9)5"), 10), 55)

    def test_least_seat_indeed(self):
        rng = seeded(19)
        count = 0
        for _ in range(100):
            make = random_make(rng)
            calls = random_plan(rng, ".ab", share=0.6)
            ahead, behind = rng.choice(make.all_names), rng.choice(make.all_names)
            least = rng.randint(0, 5)
            paces = need(make, ahead, behind, calls, least)
            if paces is None:
                self.assertIsNone(Gaps(make, ahead, behind, calls).least)
            elif paces <= 40:
                count += 1
                self.assertGreaterEqual(paces, least)
                self.assertEqual(Gaps(make.reseated([(ahead, behind, paces)]), ahead, behind, calls).least, least)
        self.assertGreater(count, 40)

    def test_errors(self):
        bad = Plan([[("c", 0)]])
        self.assertEqual(raised(Unknown, need, MAKE, "C", "D", bad, -1).name, "C")
        self.assertEqual(raised(Unknown, need, MAKE, "A", "D", bad, -1).name, "D")
        self.assertEqual(raised(BadSign, need, MAKE, "A", "A", bad, -1).sign, "c")
        make, calls = crowd(601)
        for least in (-1, 61, True, False, None, "1", [1]):
            self.assertIs(raised(BadLeast, need, make, "A", "A", calls, least).least, least)
        self.assertEqual(raised(TooMany, need, make, "A", "A", calls, 60).word, "between")
        self.assertEqual(need(make, "C", "A", calls, 60), 60)
        make, calls = crowd(600)
        self.assertEqual(need(make, "A", "A", calls, 0), 0)


class SeatedTest(unittest.TestCase):
    def test_neighbours_alone(self):
        make = two_kinds(space=9, seats=[("A", "A", 3), ("B", "B", 5)])
        told = seated(make, read_plan("(BA)*B"), read_plan("ab|b"), 1)
        self.assertEqual([row[:2] for row in told.seats], [("A", "B"), ("B", "A")])
        self.assertEqual(told.seats, tuple((*pair, need(make, *pair, read_plan("ab|b"), 1))
                                           for pair in neighbours(make, read_plan("(BA)*B"))))
        self.assertEqual((told.words, told.kinds, told.space), (make.words, make.kinds, 9))
        self.assertEqual(make.seats, (("A", "A", 3), ("B", "B", 5)))
        self.assertEqual(seated(make, Plan.bearing(["A"]), FREE, 0).seats, ())

    def test_wish_is_kept_then(self):
        calls = read_plan("(b.*)2")
        told = seated(MAKE, Plan([[("B", 0), ("S", 1)], []]), calls, 4)
        self.assertEqual(told.seats, (("B", "B", 5), ("B", "S", 6)))
        self.assertTrue(Kept(told, Plan.bearing(["BBS"]), calls, (4, 60)))
        self.assertFalse(Kept(told, Plan.bearing(["BBS"]), calls, (5, 60)))

    def test_no_seat(self):
        columns = Plan([[("A", 0), ("B", 0), ("S", 0)]])
        error = raised(NoSeat, seated, MAKE, columns, FREE, 0)
        self.assertEqual((error.ahead, error.behind), ("B", "A"))
        error = raised(NoSeat, seated, MAKE, Plan.bearing(["SA", "BS"]), FREE, 0)
        self.assertEqual((error.ahead, error.behind), ("B", "S"))
        self.assertEqual(seated(MAKE, Plan.bearing(["BS"]), read_plan("b9"), 31).seats, (("B", "S", 40),))
        error = raised(NoSeat, seated, MAKE, Plan.bearing(["BS"]), read_plan("b9"), 32)
        self.assertEqual((error.ahead, error.behind), ("B", "S"))

    def test_errors(self):
        self.assertEqual(raised(BadSign, seated, MAKE, FREE, ANY, -1).sign, ".")
        self.assertEqual(raised(BadSign, seated, MAKE, ANY, ANY, -1).sign, "A")
        for least in (-1, 61, True, None):
            self.assertIs(raised(BadLeast, seated, MAKE, ANY, FREE, least).least, least)
            self.assertIs(raised(BadLeast, seated, MAKE, Plan.bearing(["A"]), FREE, least).least, least)
        make, calls = crowd(601)
        self.assertEqual(raised(TooMany, seated, make, Plan.bearing(["CA", "AB"]), calls, 0).word, "between")
        # TooMany of later neighbours goes ahead of NoSeat of earlier ones.
        self.assertEqual(raised(TooMany, seated, make, Plan.bearing(["CA", "BC"]), calls, 41).word, "between")
        error = raised(NoSeat, seated, make, Plan.bearing(["CA", "CC"]), calls, 41)
        self.assertEqual((error.ahead, error.behind), ("C", "A"))
        self.assertEqual(len(seated(make, Plan.bearing(["CA", "CC"]), calls, 40).seats), 2)


if __name__ == "__main__":
    unittest.main()
