"""[39] obstacles, their tables, delays and streams; [43], of plain obstacles."""

import unittest

from helpers import plain_obstacle, raised, random_obstacle, seeded
from tailheard.errors import BadDelays, BadFirst, BadNames, BadStream, BadTable
from tailheard.obstacles import Obstacle

# A goes into branch 0, B into branch 1, and each B turns the table round.
TURN = Obstacle("AB", [((0, 0), (1, 1)), ((1, 1), (0, 0))], (1, 3))


def error_of(kind, *things):
    return raised(kind, Obstacle, *things)


class ObstacleTest(unittest.TestCase):
    def test_attributes(self):
        told = Obstacle("AB", [[[0, 0], [1, 0]]], [2, 4])
        self.assertEqual((told.names, told.table, told.delays, told.first), ("AB", (((0, 0), (1, 0)),), (2, 4), 0))
        self.assertEqual(Obstacle("A", (((0, 0),),), (1, 1), 1).first, 1)
        self.assertEqual(told.beginning, (0, "..", "....", ""))

    def test_lists_are_kept_as_tuples(self):
        table, delays = [[[0, 0], [1, 0]]], [2, 4]
        told = Obstacle("AB", table, delays)
        table[0][1][0] = 0
        table.append(None)
        delays[0] = 3
        self.assertEqual((told.table, told.delays), ((((0, 0), (1, 0)),), (2, 4)))

    def test_names(self):
        for names in ("", "BA", "AA", "ABCDE", "a", "A.", None, True, 1, ["A"], ("A", "B"), b"A"):
            self.assertIs(error_of(BadNames, names, None, None, None).names, names)
        self.assertEqual(Obstacle("ACXZ", [((0, 0),) * 4], (4, 4)).names, "ACXZ")

    def test_tables(self):
        row = ((0, 0), (1, 0))
        for table in ((), (row,) * 5, None, "", 0, {}):
            self.assertEqual(error_of(BadTable, "AB", table, None, None).number, -1)
        self.assertEqual(len(Obstacle("AB", (row,) * 4, (1, 1)).table), 4)
        for wrong in ((), None, "ab", ((0, 0),), ((0, 0),) * 3, ((0, 0), (2, 0)), ((0, 0), (-1, 0)),
                      ((0, 0), (True, 0)), ((0, 0), (1, 2)), ((0, 0), (1, -1)), ((0, 0), (1, False)),
                      ((0, 0), (1, "0")), ((0, 0), (1,)), ((0, 0), (1, 0, 0)), ((0, 0), None), ((0, 0), "10"),
                      ((None, 0), (0, 0))):
            self.assertEqual(error_of(BadTable, "AB", (wrong, row), None, None).number, 0, wrong)
            self.assertEqual(error_of(BadTable, "AB", (row, wrong), None, None).number, 1, wrong)

    def test_delays_and_first(self):
        table = [[(0, 0)]]
        for delays in ((), (1,), (1, 1, 1), (0, 1), (1, 5), (1, 0), (-1, 1), (True, 1), (1, True), ("1", 1), None, 2,
                       "11", [1, 5], {1: 1, 2: 2}):
            self.assertIs(error_of(BadDelays, "A", table, delays, None).delays, delays)
        for first in (2, -1, True, False, None, "0", (0,)):
            self.assertIs(error_of(BadFirst, "A", table, (4, 1), first).first, first)

    def test_equal(self):
        other = Obstacle("AB", [[[0, 0], [1, 1]], [[1, 1], [0, 0]]], [1, 3], 0)
        self.assertIs(TURN == other, True)
        for wrong in (Obstacle("AC", TURN.table, (1, 3)), Obstacle("AB", TURN.table[::-1], (1, 3)),
                      Obstacle("AB", TURN.table, (3, 1)), Obstacle("AB", TURN.table, (1, 3), 1), None, "AB"):
            self.assertIs(TURN == wrong, False)
            self.assertNotEqual(TURN, wrong)


class PlainTest(unittest.TestCase):
    def test_parts(self):
        told = Obstacle.plain("ABC", "AC", [1, 2], 1)
        self.assertEqual(told, Obstacle("ABC", [((1, 0), (0, 0), (1, 0))], (1, 2), 1))
        self.assertEqual(Obstacle.plain("AB", "", (1, 2)), Obstacle("AB", [((0, 0), (0, 0))], (1, 2)))
        self.assertEqual(Obstacle.plain("AB", "AB", (1, 2)), Obstacle("AB", [((1, 0), (1, 0))], (1, 2)))

    def test_errors(self):
        for names in ("", "BA", None):
            self.assertIs(raised(BadNames, Obstacle.plain, names, None, None, None).names, names)
        for part in ("C", "BA", "AA", "ABC", None, True, ("A",), ".", "a"):
            self.assertIs(raised(BadNames, Obstacle.plain, "AB", part, None, None).names, part)
        for delays in ((0, 1), [1, 5], None):
            self.assertIs(raised(BadDelays, Obstacle.plain, "AB", "A", delays, None).delays, delays)
        self.assertEqual(raised(BadFirst, Obstacle.plain, "AB", "A", (1, 1), 2).first, 2)


class StreamTest(unittest.TestCase):
    def test_what_comes_out(self):
        swap = Obstacle.plain("AB", "B", (1, 3))
        self.assertEqual(swap("BA...."), "..AB..")
        self.assertEqual(swap("B.A..."), "...AB.")
        self.assertEqual(Obstacle.plain("AB", "B", (1, 3), 1)("B.A..."), "...BA.")
        self.assertEqual(swap("BBBAAA....."), "...BABABA..")
        self.assertEqual(swap(""), "")
        self.assertEqual(swap("B"), ".")

    def test_rows(self):
        # The B that comes first goes into branch 1, the next one, and the A between them, as the second row tells.
        self.assertEqual(TURN("B.A.B...."), "...B.BA..")
        self.assertEqual(TURN("A..B..B.."), ".A....BB.")

    def test_groups_wait(self):
        # Two groups arrive at one beat: the one of the first branch is ahead, the other one waits, and the next too.
        for first, out in ((0, "...ABAA."), (1, "...BAAA.")):
            told = Obstacle.plain("AB", "B", (1, 3), first)
            self.assertEqual(told("B.AAA..."), out)

    def test_inside_at_each_beat(self):
        told = Obstacle.plain("AB", "B", (1, 3))
        inside = told.beginning
        found = []
        for sign in "B.AA..":
            inside, out = told.beat(inside, sign)
            found.append((inside, out))
        self.assertEqual(found, [((0, ".", "..B", ""), "."), ((0, ".", ".B.", ""), "."), ((0, "A", "B..", ""), "."),
                                 ((0, "A", "...", "B"), "A"), ((0, ".", "...", "A"), "B"),
                                 ((0, ".", "...", ""), "A")])
        self.assertEqual(told.beat([0, "A", "B..", "BA"], "A"), ((0, "A", "...", "AAB"), "B"))
        self.assertEqual(TURN.beat((1, ".", "...", ""), "A"), ((1, ".", "..A", ""), "."))
        self.assertEqual(TURN.beat((1, ".", "...", ""), "B"), ((0, "B", "...", ""), "."))

    def test_bad_streams(self):
        for stream, number in (("C", 0), ("AB.a", 3), ("AB A", 2), (None, -1), (True, -1), (["A"], -1), (b"A", -1),
                               ("." * 401, -1), ("C" * 401, -1), (("A",), -1)):
            self.assertEqual(raised(BadStream, TURN, stream).number, number)
        self.assertEqual(TURN("." * 400), "." * 400)
        self.assertEqual(len(TURN("AB" * 200)), 400)

    def test_against_a_plain_looker(self):
        rng = seeded(451)
        for _ in range(300):
            names = rng.choice(["A", "AB", "ABCD"])
            told = random_obstacle(rng, names)
            stream = "".join(rng.choice("." + names) for _ in range(rng.randint(0, 40)))
            self.assertEqual(told(stream), plain_obstacle(told, stream))
            inside, out = told.beginning, ""
            for at, sign in enumerate(stream):
                inside, sign = told.beat(inside, sign)
                out += sign
                row, zero, one, waiting = inside
                self.assertEqual((len(zero), len(one)), told.delays)
                lately = stream[max(0, at + 1 - len(zero)):at + 1]
                self.assertTrue(all(sign == "." or sign == seen for sign, seen in zip(zero[::-1], lately[::-1])))
                self.assertNotIn(".", waiting)
            self.assertEqual(out, told(stream))
            through = stream + "." * 60
            self.assertEqual(sorted(told(through).replace(".", "")), sorted(stream.replace(".", "")))


if __name__ == "__main__":
    unittest.main()
