"""[20] files, their columns, delays and lengths for any number of parts."""

import unittest

from helpers import WALK, raised, random_make, seeded, two_kinds, walkers
from tailheard.columns import Column
from tailheard.errors import BadColumn, BadFile, BadNumber
from tailheard.files import File
from tailheard.makes import Make


class FileTest(unittest.TestCase):
    def test_columns(self):
        file = File(two_kinds(), "AB", "BBA", "B")
        self.assertEqual((file.make, file.head, file.part, file.tail), (two_kinds(), "AB", "BBA", "B"))
        self.assertEqual(file.column_of(1), Column(two_kinds(), "ABBBAB"))
        self.assertEqual(file.column_of(3).groups, "AB" + "BBA" * 3 + "B")

    def test_empty_head_and_tail(self):
        file = File(walkers(), "", "A", "")
        self.assertEqual(file.column_of(1).groups, "A")
        self.assertEqual((file.delay_of(1), file.length_of(1)), (0, 2))
        self.assertEqual((file.delay_of(2), file.length_of(2)), (1, 5))
        self.assertEqual(File(two_kinds(), "", "AB", "A").column_of(2).groups, "ABABA")
        self.assertEqual(File(two_kinds(), "B", "AB", "").column_of(2).groups, "BABAB")

    def test_against_columns(self):
        rng = seeded(120)
        for _ in range(60):
            make = random_make(rng, kinds=3)
            head, part, tail = ["".join(rng.choice(make.all_names) for _ in range(rng.randint(least, 4)))
                                for least in (0, 1, 0)]
            file = File(make, head, part, tail)
            for n in (1, 2, 3, 7, 13):
                column = Column(make, head + part * n + tail)
                self.assertEqual(file.column_of(n), column)
                self.assertEqual(file.delay_of(n), column.delay_row[-1])
                self.assertEqual(file.length_of(n), column.rest_length)

    def test_great_numbers(self):
        make = Make("ab", [("A", 3, WALK), ("B", 1, WALK)], 5, [("B", "A", 9)])
        file = File(make, "A", "AB", "B")
        great = 10 ** 39
        # A part adds two groups of two paces, a seat of 5 paces and one of 9.
        self.assertEqual(file.length_of(great), 18 * (great - 1) + file.length_of(1))
        self.assertEqual(file.delay_of(great), 4 * (great - 1) + file.delay_of(1))
        self.assertEqual((file.length_of(1), file.delay_of(1)), (23, 7))
        self.assertEqual(raised(BadColumn, file.column_of, great).number, -1)

    def test_sixty_groups(self):
        file = File(walkers(), "A" * 20, "A" * 20, "A" * 20)
        self.assertEqual(len(file.column_of(1)), 60)
        self.assertEqual(raised(BadColumn, file.column_of, 2).number, -1)
        single = File(walkers(), "", "A", "")
        self.assertEqual(len(single.column_of(60)), 60)
        self.assertEqual(raised(BadColumn, single.column_of, 61).number, -1)
        pairs = File(walkers(), "A", "AA", "")
        self.assertEqual(len(pairs.column_of(29)), 59)
        self.assertEqual(raised(BadColumn, pairs.column_of, 30).number, -1)

    def test_numbers(self):
        file = File(walkers(), "", "A", "")
        for n in (0, -1, True, False, None, "1", 1.0, (1,)):
            for call in (file.column_of, file.delay_of, file.length_of):
                self.assertIs(raised(BadNumber, call, n).number, n)

    def test_words(self):
        make = walkers()
        for text in ("B", "AAB", "A" * 21, None, True, 0, ("A",), ["A"], ".", "a"):
            self.assertEqual(raised(BadFile, File, make, text, text, text).word, "head")
            self.assertEqual(raised(BadFile, File, make, "", text, text).word, "part")
            self.assertEqual(raised(BadFile, File, make, "", "A", text).word, "tail")
        self.assertEqual(raised(BadFile, File, make, "", "", "").word, "part")
        File(make, "A" * 20, "A" * 20, "A" * 20)

    def test_equality(self):
        file = File(two_kinds(), "A", "B", "A")
        self.assertTrue(file == File(two_kinds(), "A", "B", "A"))
        for other in (File(two_kinds(space=2), "A", "B", "A"), File(two_kinds(), "", "B", "A"),
                      File(two_kinds(), "A", "BB", "A"), File(two_kinds(), "A", "B", ""), None, "ABA"):
            self.assertIs(file == other, False)


if __name__ == "__main__":
    unittest.main()
