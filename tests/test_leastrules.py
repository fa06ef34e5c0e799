"""[38] menus and least rules."""

import itertools
import unittest

from helpers import raised, seeded
from tailheard.crossings import Crossing
from tailheard.errors import BadRule, TooMany
from tailheard.leastrules import least_rules
from tailheard.through import Through

MEET = Crossing(3, [(0, 1, 2), (2, 1, 0)])
PLUS = Crossing(3, [(0, 1), (2, 1)])
# Who would enter while somebody of the other way is in the street is kept out.
MENU = ((0, 0, "?#?", None, 0), (0, 0, "??#", None, 0), (2, 0, "?#?", None, 0), (2, 0, "#??", None, 0),
        (2, 0, "...", None, 0))


def plain_least(crossing, menu):
    """The least choices, all of which are looked at."""
    good = []
    for many in range(len(menu) + 1):
        for choice in itertools.combinations(range(len(menu)), many):
            rules = crossing.rules + tuple(menu[number] for number in choice)
            if Through(Crossing(crossing.places, crossing.ways, rules)):
                good.append(choice)
    return tuple(choice for choice in good if not any(set(part) < set(choice) for part in good))


class LeastRulesTest(unittest.TestCase):
    def test_the_empty_choice(self):
        street = Crossing(3, [(0, 1, 2)])
        self.assertEqual(least_rules(street, ()), ((),))
        self.assertEqual(least_rules(street, [(0, 0, "???", None, 0)]), ((),))
        self.assertEqual(least_rules(MEET, ()), ())

    def test_choices(self):
        found = least_rules(MEET, MENU)
        self.assertEqual(found, plain_least(MEET, MENU))
        back = Crossing(2, [(0,), (1,)], [(1, 0, "??", None, 0)])
        self.assertEqual(least_rules(back, [(1, 1, "??", None, 0), (0, 0, "??", (0, 0), 0)]), ())
        # Each of the first two opens the way; with both of them it would be open, too, but that is not least.
        shut = Crossing(1, [(0,)], [(0, 0, "?", None, 1)])
        self.assertEqual(least_rules(shut, [(0, 1, "?", (0, 0), 1), (0, 1, "?", (0, 0), 1)]), ((),))
        never = [(0, 0, "?", None, 1), (0, 1, "?", None, 0)]
        self.assertEqual(least_rules(Crossing(1, [(0,)], never), [(0, 0, "?", (0, 0), 0)]), ())

    def test_rules_that_are_needed_together(self):
        # With both the groups come by turns; with one of them alone, one way goes ahead for ever.
        by_turns = [(1, 0, "#?#", (0, 1), 1), (1, 1, "#?#", (1, 1), 0)]
        self.assertEqual(least_rules(PLUS, by_turns), ((0, 1),))
        self.assertEqual(least_rules(PLUS, by_turns[::-1]), ((0, 1),))
        self.assertEqual(least_rules(PLUS, [by_turns[0], (0, 3, "???", None, 0), by_turns[1], by_turns[1]]),
                         ((0, 2), (0, 3)))
        self.assertEqual(least_rules(PLUS + by_turns[0], by_turns), ((1,),))

    def test_against_a_plain_looker(self):
        rng = seeded(431)
        lengths = {}
        for _ in range(60):
            rules = list(rows_for(rng, rng.randint(0, 1)))
            crossing = Crossing(3, PLUS.ways, rules)
            menu = list(rows_for(rng, rng.randint(3, 5)))
            found = plain_least(crossing, menu)
            self.assertEqual(least_rules(crossing, menu), found)
            for choice in found:
                lengths[len(choice)] = lengths.get(len(choice), 0) + 1
        self.assertTrue({1, 2} <= set(lengths), lengths)

    def test_bad_menus(self):
        row = (0, 0, "???", None, 0)
        for menu in (None, "", 0, {}, (row,) * 6, (None,) * 6):
            self.assertEqual(raised(BadRule, least_rules, MEET, menu).number, -1)
        self.assertEqual(len(least_rules(Crossing(3, [(0, 1, 2)]), [list(row)] * 5)), 1)
        for at in range(5):
            menu = [row] * at + [(0, 4, "???", None, 0), None][:5 - at]
            self.assertEqual(raised(BadRule, least_rules, MEET, menu).number, at)
        self.assertEqual(raised(BadRule, least_rules, MEET, [(0, 0, "??", None, 0)]).number, 0)
        self.assertEqual(raised(BadRule, least_rules, MEET, [(3, 0, "???", None, 0)]).number, 0)

    def test_twelve_rules_together(self):
        row = (1, 3, "???", None, 0)
        full = Crossing(3, [(0, 1, 2)], [row] * 8)
        self.assertEqual(least_rules(full, [row] * 4), ((),))
        self.assertEqual(raised(BadRule, least_rules, full, [row] * 5).number, -1)
        # This goes ahead of what is wrong with a rule itself.
        self.assertEqual(raised(BadRule, least_rules, full, [None] * 5).number, -1)
        self.assertEqual(raised(BadRule, least_rules, full, [row, None, row, row]).number, 1)
        self.assertEqual(raised(BadRule, least_rules, Crossing(3, [(0, 1, 2)], [row] * 12), [row]).number, -1)
        self.assertEqual(least_rules(Crossing(3, [(0, 1, 2)], [row] * 12), ()), ((),))

    def test_lists_are_not_changed(self):
        menu = [list(row) for row in MENU]
        least_rules(MEET, menu)
        self.assertEqual(menu, [list(row) for row in MENU])

    def test_too_many(self):
        more = Crossing(7, ((0, 5, 6, 0, 3, 5, 0), (4, 2, 5)), (
            (2, 0, "?#..???", (1, 1), 2), (0, 0, "?.??#??", (0, 6), 1), (0, 0, "#????.?", (0, 6), 2)))
        self.assertEqual(raised(TooMany, least_rules, more, ()).word, "situation")
        self.assertEqual(raised(BadRule, least_rules, more, [None]).number, 0)

    def test_too_many_only_where_it_is_looked_at(self):
        # Two streets side by side; the warden of the first place counts, which makes 400 situations.
        ways = ((0, 1, 2, 3), (4, 5, 6, 7))
        counts = [(0, memory, "?" * 8, (0, 0), (memory + 1) % 4) for memory in range(4)]
        menu = [(5, 0, "?" * 8, (1, 1), 1), (5, 1, "?" * 8, (1, 1), 0)]
        street = Crossing(8, ways, counts)
        self.assertEqual(len(street.situations()), 400)
        self.assertEqual(raised(TooMany, Crossing(8, ways, counts + menu).situations).word, "situation")
        # The empty choice is a least one, so the others are not looked at.
        self.assertEqual(least_rules(street, menu), ((),))
        shut = Crossing(8, ways, counts + [(7, 0, "?" * 8, None, 0)])
        menu = [(2, memory, "?" * 8, (0, 2), memory + 1) for memory in range(3)]
        self.assertEqual(len((shut + menu[0]).situations()), 440)
        self.assertEqual(least_rules(shut, menu[:1]), ())
        self.assertEqual(raised(TooMany, least_rules, shut, menu).word, "situation")


def rows_for(rng, many):
    """Rules of the join of two ways."""
    for _ in range(many):
        yield (1, rng.randint(0, 1), rng.choice(["#?#", "???", "?.#", "#??"]), rng.choice([(0, 1), (1, 1), None]),
               rng.randint(0, 1))


if __name__ == "__main__":
    unittest.main()
