"""[52], of the lines of a crossing."""

import unittest

from helpers import raised, random_crossing, seeded
from tailheard.crossinglines import read_crossing, write_crossing
from tailheard.crossings import Crossing
from tailheard.errors import BadLine, BadPlaces, BadRule, BadWay

LINES = ("way 0 1", "way 2 1", "rule 1 0 ?#. 1,1 3", "rule 0 2 ... - 0")
CROSSING = Crossing(3, [(0, 1), (2, 1)], [(1, 0, "?#.", (1, 1), 3), (0, 2, "...", None, 0)])


class WriteTest(unittest.TestCase):
    def test_lines(self):
        self.assertEqual(write_crossing(CROSSING), LINES)
        self.assertEqual(write_crossing(Crossing(1, [[0]])), ("way 0",))

    def test_written_and_read_back(self):
        rng = seeded(441)
        for _ in range(60):
            crossing = random_crossing(rng, most_rules=12, longest=5)
            lines = write_crossing(crossing)
            self.assertIsInstance(lines, tuple)
            self.assertEqual(read_crossing(crossing.places, lines), crossing)
            self.assertEqual(read_crossing(crossing.places, list(lines)), crossing)


class ReadTest(unittest.TestCase):
    def wrong(self, *lines):
        error = raised(BadLine, read_crossing, 3, lines)
        return error.line, error.word

    def test_whole(self):
        self.assertEqual(read_crossing(3, LINES), CROSSING)
        self.assertEqual(read_crossing(3, LINES[:1]), Crossing(3, [(0, 1)]))

    def test_first_words(self):
        for line in ("", " ", "end", "ways 0", "Way 0", " way 0", "rules", "crossing", "0 1", None, 0, True,
                     ["way", "0"], ("way 0",), b"way 0"):
            self.assertEqual(self.wrong(line), (0, 0), line)
            self.assertEqual(self.wrong(*LINES, line), (4, 0), line)
        self.assertEqual(self.wrong(*LINES[:3], "way 0"), (3, 0))
        self.assertEqual(self.wrong(LINES[2], "way 0", "?"), (1, 0))

    def test_ways(self):
        for line, word in (("way 8", 1), ("way -1", 1), ("way 00", 1), ("way 01", 1), ("way 0 1 x", 3), ("way 0 ", 2),
                           ("way  0", 1), ("way ", 1), ("way 0  1", 2), ("way 0 +1", 2), ("way 0,1", 1),
                           ("way 10", 1), ("way .", 1), ("way 0 1 2 3 4 5 6 7 0 8", 10)):
            self.assertEqual(self.wrong(line), (0, word), line)
            self.assertEqual(self.wrong(*LINES[:2], line), (2, word), line)

    def test_rules(self):
        for line, word in (("rule", 1), ("rule 1", 2), ("rule 1 0", 3), ("rule 1 0 ?#.", 4), ("rule 1 0 ?#. -", 5),
                           ("rule 1 0 ?#. - 0 0", 6), ("rule 1 0 ?#. - 0 ", 6), ("rule  1 0 ?#. - 0", 1),
                           ("rule 8 0 ??? - 0", 1), ("rule -1 0 ??? - 0", 1), ("rule 01 0 ??? - 0", 1),
                           ("rule 1 4 ??? - 0", 2), ("rule 1 00 ??? - 0", 2), ("rule 1 -0 ??? - 0", 2),
                           ("rule 1 x ??? - 0", 2), ("rule 1 -1 ??? - 0", 2),
                           ("rule 1 0 ?x? - 0", 3), ("rule 1 0 ????????? - 0", 3),
                           ("rule 1 0  - 0", 3), ("rule 1 0 - - 0", 3), ("rule 1 0 ??? -- 0", 4),
                           ("rule 1 0 ??? 0 0", 4), ("rule 1 0 ??? 2,0 0", 4), ("rule 1 0 ??? 0,8 0", 4),
                           ("rule 1 0 ??? 0,01 0", 4), ("rule 1 0 ??? 00,1 0", 4), ("rule 1 0 ??? 0,1,1 0", 4),
                           ("rule 1 0 ??? ,1 0", 4), ("rule 1 0 ??? 0, 0", 4), ("rule 1 0 ??? 0,-1 0", 4),
                           ("rule 1 0 ??? 0, 1 0", 4), ("rule 1 0 ??? None 0", 4), ("rule 1 0 ???  0", 4),
                           ("rule 1 0 ??? 0,1 4", 5), ("rule 1 0 ??? 0,1 -1", 5), ("rule 1 0 ??? 0,1 03", 5),
                           ("rule 1 0 ??? 0,1 x", 5), ("rule 1 0 ??? 0.1 0", 4), ("rule 9 9 9", 1)):
            self.assertEqual(self.wrong(*LINES[:2], line, None), (2, word), line)

    def test_what_stands_in_itself_is_judged_by_the_crossing(self):
        # A way with too many places, or a sight of another length, can be read; the crossing itself refuses it.
        self.assertEqual(raised(BadWay, read_crossing, 3, ("way",)).number, 0)
        self.assertEqual(raised(BadWay, read_crossing, 3, ("way 0", "way 0 1 2 0 1 2 0 1 2")).number, 1)
        self.assertEqual(raised(BadWay, read_crossing, 3, ("way 7",)).number, 0)
        self.assertEqual(raised(BadWay, read_crossing, 3, ("way 0",) * 3).number, -1)
        self.assertEqual(raised(BadWay, read_crossing, 3, ()).number, -1)
        self.assertEqual(raised(BadWay, read_crossing, 3, LINES[2:]).number, -1)
        for line in ("rule 7 0 ??? - 0", "rule 1 0 ? - 0", "rule 1 0 ???????? - 0", "rule 1 0 ??? 0,7 0",
                     "rule 1 0 ??? 1,0 0"):
            self.assertEqual(raised(BadRule, read_crossing, 3, (*LINES, line)).number, 2, line)
        self.assertEqual(raised(BadRule, read_crossing, 3, LINES[:2] + LINES[2:3] * 13).number, -1)
        self.assertEqual(len(read_crossing(3, LINES[:2] + LINES[2:3] * 12)), 12)

    def test_bad_lines_go_ahead(self):
        for places in (0, 9, True, None, "3"):
            self.assertIs(raised(BadPlaces, read_crossing, places, LINES).places, places)
            self.assertEqual(raised(BadLine, read_crossing, places, (*LINES, "way")).line, 4)
        self.assertEqual(self.wrong("way 7", "rule"), (1, 1))


if __name__ == "__main__":
    unittest.main()
