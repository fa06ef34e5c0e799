"""[27] doubles, their steps and their order."""

import unittest

from helpers import (FREE, WALK, many_doubles, plain_onward, raised, random_make, random_plan, seeded, two_kinds,
                     walkers)
from tailheard.columns import Column
from tailheard.doubles import Doubles
from tailheard.errors import BadSign, NoBetween, TooMany, Unknown
from tailheard.makes import Make
from tailheard.plans import Plan
from tailheard.plantext import read_plan
from tailheard.talks import Talk

FIRST = (-2, -2, 0, 0, ".", ".")


class DoublesTest(unittest.TestCase):
    def test_two_words(self):
        make = walkers()
        told = Doubles(make, "A", "A", read_plan("a"), read_plan("b"))
        self.assertEqual((told.make, told.ahead, told.behind), (make, "A", "A"))
        self.assertEqual((told.downs, told.ups), (read_plan("a"), read_plan("b")))
        self.assertEqual(list(told)[:5], [FIRST, (-2, 1, 0, 0, ".", "b"), (1, -2, 1, 0, "a", "."),
                                          (1, 1, 1, 0, "a", "b"), (-2, -1, 0, 0, ".", ".")])
        self.assertEqual(told.onward(FIRST), (
            ((".", "."), 0, FIRST), ((".", "b"), 0, (-2, 1, 0, 0, ".", "b")),
            (("a", "."), 1, (1, -2, 1, 0, "a", ".")), (("a", "b"), 1, (1, 1, 1, 0, "a", "b"))))
        # Both words cross between the neighbours: the one ahead hears `b` behind `a`, the one behind `a` behind `b`.
        self.assertEqual(told.onward((1, 1, 1, 0, "a", "b")), (((".", "."), -1, (-1, -1, 0, 1, ".", ".")),))
        self.assertEqual((len(told), list(told)[-1]), (12, (-1, -1, 1, 1, ".", ".")))

    def test_both_words_at_one_beat(self):
        make = Make("ab", [("A", 1, ((0, 1, (0, 1, 2)), (1, 2, (1, 1, 0)), (3, 4, (2, 1, 2))))])
        told = Doubles(make, "A", "A", read_plan("a"), read_plan("b"))
        # The one behind hears `a` from ahead and calls `b` at the same beat: `a` first, then `b`.
        self.assertIn((-1, 1, 1, 0, ".", "b"), told)
        self.assertEqual([row for row in told.onward((1, -2, 1, 0, "a", ".")) if row[0] == (".", "b")],
                         [((".", "b"), 1, (-1, 1, 1, 0, ".", "b"))])
        # The one ahead hears `a` itself and `b` from behind: `a` first.
        self.assertEqual([row for row in told.onward((-2, 1, 0, 2, ".", "b")) if row[0] == ("a", ".")],
                         [(("a", "."), 0 - 3, (1, -1, 0, 2, "a", "."))])

    def test_several_doubles_by_one_pair_of_signs(self):
        told = Doubles(walkers(), "A", "A", FREE, Plan([[]]))
        by_silence = [onto for signs, _, onto in told.onward(FIRST) if signs == (".", ".")]
        self.assertEqual(by_silence, sorted([FIRST, (-2, -1, *FIRST[2:]), (-1, -2, *FIRST[2:]), (-1, -1, *FIRST[2:]),
                                             (0, -2, *FIRST[2:]), (0, -1, *FIRST[2:])]))
        self.assertEqual(list(told)[:6], [FIRST] + sorted(onto for onto in by_silence if onto != FIRST))

    def test_windows_as_long_as_the_lag_ahead(self):
        told = Doubles(two_kinds(), "B", "A", read_plan("a"), read_plan("b"))
        self.assertEqual(list(told)[0], (-2, -2, 0, 0, "..", ".."))
        short = Doubles(two_kinds(), "A", "B", read_plan("a"), read_plan("b"))
        self.assertEqual(list(short)[0], FIRST)

    def test_against_plain_lookers(self):
        rng = seeded(180)
        for _ in range(40):
            make = random_make(rng, stride=2)
            downs, ups = [random_plan(rng, ".ab", most=3, share=0.4) for _ in range(2)]
            ahead, behind = rng.choice(make.all_names), rng.choice(make.all_names)
            try:
                told = Doubles(make, ahead, behind, downs, ups)
            except TooMany:
                continue
            silences = "." * make.lag_of(ahead)
            queue = [[(-2, -2, 0, 0, silences, silences)]]
            seen = set(queue[0])
            # Groups of doubles with the same least tuple of steps, in the order of these tuples.
            for group in queue:
                onward = {}
                for double in group:
                    rows = plain_onward(make, ahead, behind, downs, ups, double)
                    self.assertEqual(told.onward(double), rows)
                    for signs, _, onto in rows:
                        onward.setdefault(signs, set()).add(onto)
                for signs in sorted(onward):
                    fresh = sorted(onward[signs] - seen)
                    seen.update(fresh)
                    queue += [fresh] if fresh else []
            self.assertEqual(list(told), [double for group in queue for double in group])
            self.assertEqual(len(told), len(seen))

    def test_against_talks(self):
        rng = seeded(181)
        for _ in range(40):
            make = random_make(rng, stride=2)
            column = Column(make, "".join(rng.choice(make.all_names) for _ in range(2)))
            downs, ups = read_plan("(a|b|.a)b?"), read_plan("ba?")
            told = Doubles(make, *column.groups, downs, ups)
            down, up = rng.choice(list(downs.strings(3))), rng.choice(list(ups.strings(3)))
            talk = Talk(column, down, up, down_at=rng.randint(1, 5), up_at=rng.randint(1, 5), beats=15)
            layer = [list(told)[0]]
            gap = talk.gaps_at(0)[0]
            for beat in range(1, 16):
                signs = (talk.heard(0, beat)[0], talk.heard(1, beat)[1])
                found = [(change, onto) for double in layer for own, change, onto in told.onward(double)
                         if own == signs]
                self.assertEqual(len({change for change, _ in found}), 1)
                gap += found[0][0]
                self.assertEqual(talk.gaps_at(beat)[0], gap)
                layer = sorted({onto for _, onto in found})
                self.assertEqual({onto[2:4] for onto in layer}, {talk.standings_at(beat)})

    def test_looking_up(self):
        told = Doubles(walkers(), "A", "A", read_plan("a"), read_plan("b"))
        self.assertIs(FIRST in told, True)
        self.assertIs(list(FIRST) in told, True)
        self.assertEqual(told.onward(list(FIRST)), told.onward(FIRST))
        for double in ((-2, -2, False, 0, ".", "."), (-2, -2, 0, 0, "."), (0, 0, 0, 0, ".", "."), FIRST[:4], None, 0,
                       (), (*FIRST, 0), (-2, -2, 0, 0, ".", None), [[-2], -2, 0, 0, ".", "."], {}, "abcdef",
                       (-2, -2, 0, 0, "..", "."), (True, -2, 1, 0, "a", ".")):
            self.assertIs(double in told, False)
            self.assertIs(raised(NoBetween, told.onward, double).between, double)

    def test_twelve_hundred(self):
        self.assertEqual(len(Doubles(walkers(), "A", "A", *many_doubles(0))), 1200)
        self.assertEqual(raised(TooMany, Doubles, walkers(), "A", "A", *many_doubles(1)).word, "double")

    def test_order_of_errors(self):
        make = walkers()
        bad = Plan([[("a", 0), ("c", 0)], [("d", 0)]])
        for name in ("B", "AA", "", None, True, ["A"]):
            self.assertIs(raised(Unknown, Doubles, make, name, "?", bad, bad).name, name)
            self.assertIs(raised(Unknown, Doubles, make, "A", name, bad, bad).name, name)
        self.assertEqual(raised(BadSign, Doubles, make, "A", "A", bad, Plan([[("e", 0)]])).sign, "c")
        self.assertEqual(raised(BadSign, Doubles, make, "A", "A", FREE, Plan([[("e", 0)]])).sign, "e")
        self.assertEqual(len(Doubles(Make("ab", [("A", 1, WALK)]), "A", "A", Plan([[]]), Plan([[]]))), 4)


if __name__ == "__main__":
    unittest.main()
