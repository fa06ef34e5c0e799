"""[46] bandings of a column."""

import itertools
import unittest

from helpers import plain_apart, plain_feet, raised, random_make, seeded
from tailheard.bandings import fewest_bands
from tailheard.columns import Column
from tailheard.errors import BadCycle, BadEar, BadRelay, BadSlow, BadWithin, TooLong
from tailheard.makes import Make

MAKE = Make("a", [("A", 1, ((0, 2, (0, 0)),))])


def plain_fewest(column, slow, cycle, earshot, relay, within):
    many = len(column)
    for number in range(many + 1):
        for choice in itertools.combinations(range(many), number):
            bands = [at in choice for at in range(many)]
            feet, heard = plain_feet(column.make, column.groups, bands, slow, cycle, earshot, relay)
            if all(bands[at] or heard[at] is not None for at in range(many)) and all(
                    plain_apart(cycle, one, two) <= within for one, two in zip(feet, feet[1:])):
                return number, choice
    return None, None


class BandingsTest(unittest.TestCase):
    def test_found(self):
        self.assertEqual(fewest_bands(Column(MAKE, "A"), 1, 10, 0, False, 0), (1, (0,)))
        self.assertEqual(fewest_bands(Column(MAKE, "A" * 12), 0, 10, 60, False, 0), (1, (0,)))
        # A band is heard by the two groups behind it.
        self.assertEqual(fewest_bands(Column(MAKE, "A" * 5), 0, 10, 6, False, 0), (2, (0, 2)))
        self.assertEqual(fewest_bands(Column(MAKE, "A" * 12), 0, 10, 6, False, 0), (4, (0, 3, 6, 9)))
        self.assertEqual(fewest_bands(Column(MAKE, "A" * 3), 0, 10, 2, False, 0), (3, (0, 1, 2)))

    def test_each_group_is_in_step_with_the_one_ahead(self):
        # The feet are 0, 3 and 6: the head and the last group are farther apart than neighbours.
        self.assertEqual(fewest_bands(Column(MAKE, "AAA"), 1, 20, 60, False, 3), (1, (0,)))
        self.assertEqual(fewest_bands(Column(MAKE, "AAA"), 1, 20, 60, False, 2), (3, (0, 1, 2)))
        # With bands for the first two the feet would be 0, 0 and 3.
        self.assertEqual(fewest_bands(Column(MAKE, "AAA"), 1, 20, 3, False, 2), (3, (0, 1, 2)))

    def test_none(self):
        # Each pace needs a tick, so two bands that hear one another are three ticks apart.
        self.assertEqual(fewest_bands(Column(MAKE, "AA"), 1, 10, 3, True, 2), (None, None))
        self.assertEqual(fewest_bands(Column(MAKE, "AA"), 1, 10, 3, True, 3), (1, (0,)))
        self.assertEqual(fewest_bands(Column(MAKE, "AA"), 1, 10, 3, False, 2), (2, (0, 1)))

    def test_first_of_several(self):
        found = fewest_bands(Column(MAKE, "A" * 4), 1, 10, 6, False, 6)
        self.assertEqual(found, (2, (0, 1)))

    def test_against_a_plain_looker(self):
        rng = seeded(501)
        numbers = {}
        for _ in range(120):
            make = random_make(rng, kinds=2)
            column = Column(make, "".join(rng.choice(make.all_names) for _ in range(rng.randint(1, 7))))
            things = (rng.randint(0, 4), rng.randint(2, 12), rng.randint(0, 14), rng.random() < 0.5, rng.randint(0, 4))
            found = fewest_bands(column, *things)
            self.assertEqual(found, plain_fewest(column, *things))
            numbers[found[0]] = True
        self.assertTrue({None, 1, 2, 3} <= set(numbers), numbers)

    def test_errors(self):
        thirteen, column = Column(MAKE, "A" * 13), Column(MAKE, "A" * 12)
        self.assertEqual(raised(TooLong, fewest_bands, thirteen, *[None] * 5).number, 13)
        self.assertEqual(raised(TooLong, fewest_bands, Column(MAKE, "A" * 60), *[None] * 5).number, 60)
        for slow in (-1, 13, True, None):
            self.assertIs(raised(BadSlow, fewest_bands, column, slow, *[None] * 4).slow, slow)
        for cycle in (1, 61, True, None):
            self.assertIs(raised(BadCycle, fewest_bands, column, 0, cycle, *[None] * 3).cycle, cycle)
        for ear in (-1, 61, True, None):
            self.assertIs(raised(BadEar, fewest_bands, column, 0, 2, ear, None, None).ear, ear)
        for relay in (0, 1, None, "x"):
            self.assertIs(raised(BadRelay, fewest_bands, column, 0, 2, 0, relay, None).relay, relay)
        for within in (-1, 31, True, None, "0"):
            self.assertIs(raised(BadWithin, fewest_bands, column, 0, 2, 0, True, within).within, within)
        self.assertEqual(fewest_bands(column, 0, 2, 0, True, 30)[0], 12)


if __name__ == "__main__":
    unittest.main()
