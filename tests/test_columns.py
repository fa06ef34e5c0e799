"""[4] columns at rest."""

import unittest

from helpers import raised, two_kinds, walkers
from tailheard.columns import Column
from tailheard.errors import BadColumn, BadNumber, Unlike

MAKE = two_kinds(space=5, seats=[("A", "B", 7), ("B", "B", 0)])


class ColumnTest(unittest.TestCase):
    def test_bad_columns(self):
        for groups, at in (("", -1), ("A" * 61, -1), ("?" * 61, -1), (None, -1), (0, -1), (["A"], -1), (("A",), -1),
                           ("C", 0), ("AaB", 1), ("AB.", 2), ("A" * 59 + "C", 59)):
            self.assertEqual(raised(BadColumn, Column, MAKE, groups).number, at)
        self.assertEqual(len(Column(MAKE, "AB" * 30)), 60)

    def test_attributes(self):
        column = Column(MAKE, "ABBA")
        self.assertIs(column.make, MAKE)
        self.assertEqual(column.groups, "ABBA")
        self.assertEqual(len(column), 4)
        self.assertEqual(list(column), ["A", "B", "B", "A"])
        self.assertEqual([column[at] for at in range(4)], ["A", "B", "B", "A"])
        for number in (-1, 4, True, False, None, "0", [0], slice(0, 1)):
            self.assertIs(raised(BadNumber, lambda: column[number]).number, number)

    def test_at_rest(self):
        column = Column(MAKE, "ABBA")
        self.assertEqual(column.delay_row, (0, 1, 3, 5))
        # Bodies at rest: A 2, B 1; seats AB 7, BB 0, BA 5.
        self.assertEqual(column.front_row, (0, -9, -10, -16))
        self.assertEqual(column.rest_length, 18)
        self.assertEqual(column.pairs, (("A", "B"), ("B", "B"), ("B", "A")))

    def test_one_group(self):
        column = Column(MAKE, "B")
        self.assertEqual((column.delay_row, column.front_row, column.rest_length, column.pairs), ((0,), (0,), 1, ()))

    def test_pairs_are_told_as_often_as_they_are(self):
        self.assertEqual(Column(MAKE, "AAA").pairs, (("A", "A"), ("A", "A")))

    def test_equality(self):
        self.assertEqual(Column(MAKE, "AB"), Column(two_kinds(space=5, seats=MAKE.seats), "AB"))
        self.assertNotEqual(Column(MAKE, "AB"), Column(MAKE, "BA"))
        self.assertNotEqual(Column(MAKE, "AB"), Column(two_kinds(), "AB"))
        self.assertFalse(Column(MAKE, "AB") == "AB")

    def test_behind_one_another(self):
        one, two = Column(MAKE, "AB"), Column(two_kinds(space=5, seats=MAKE.seats), "BA")
        self.assertEqual(one + two, Column(MAKE, "ABBA"))
        self.assertEqual((one.groups, two.groups), ("AB", "BA"))
        self.assertEqual(raised(Unlike, lambda: one + Column(walkers(), "A" * 60)).word, "make")
        long = Column(MAKE, "A" * 59)
        self.assertEqual(len(long + Column(MAKE, "B")), 60)
        self.assertEqual(raised(BadColumn, lambda: long + one).number, -1)
        self.assertEqual(long, Column(MAKE, "A" * 59))
        self.assertRaises(TypeError, lambda: one + "BA")


if __name__ == "__main__":
    unittest.main()
