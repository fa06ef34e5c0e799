"""[5] runs, wishes, breaches."""

import unittest

from helpers import raised, random_make, seeded, two_kinds, walkers
from tailheard.columns import Column
from tailheard.errors import BadBeats, BadCalling, BadWish
from tailheard.runs import Run

MAKE = two_kinds(space=5, seats=[("A", "B", 7), ("B", "B", 0)])


def played(column, calling, beats):
    """The standings and fronts, beat by beat, told group by group as the document tells it."""
    make = column.make
    standings = [0] * len(column)
    fronts = list(column.front_row)
    rows = [(tuple(standings), tuple(fronts))]
    for beat in range(1, beats + 1):
        for at, name in enumerate(column.groups):
            index = beat - 1 - sum(make.lag_of(ahead) for ahead in column.groups[:at])
            sign = calling[index] if 0 <= index < len(calling) else "."
            standings[at] = make[name](standings[at], sign)
            fronts[at] += make[name][standings[at]][0]
        rows.append((tuple(standings), tuple(fronts)))
    return rows


class RunTest(unittest.TestCase):
    def test_two_walkers(self):
        run = Run(Column(walkers(), "AA"), "a.b")
        self.assertEqual((run.column, run.calling, run.beats), (Column(walkers(), "AA"), "a.b", 4))
        self.assertEqual(len(run), 5)
        self.assertEqual(list(run), [(0, 0), (1, 0), (1, 1), (0, 1), (0, 0)])
        self.assertEqual([run.standings_at(beat) for beat in range(5)], list(run))
        self.assertEqual([run.fronts_at(beat) for beat in range(5)], [(0, -3), (1, -3), (2, -2), (2, -1), (2, -1)])
        self.assertEqual([run.gaps_at(beat) for beat in range(5)], [(1,), (2,), (2,), (1,), (1,)])
        self.assertEqual([run.length_at(beat) for beat in range(5)], [5, 6, 6, 5, 5])

    def test_bodies_count(self):
        run = Run(Column(MAKE, "BA"), "a")
        self.assertEqual(run.beats, 3)
        # The group ahead stretches by 2 for one beat: the gap shrinks, the length does not.
        self.assertEqual([run.gaps_at(beat) for beat in range(4)], [(5,), (3,), (5,), (4,)])
        self.assertEqual([run.length_at(beat) for beat in range(4)], [8, 8, 8, 7])
        last = Run(Column(MAKE, "AB"), "b.a", 5)
        self.assertEqual([last.length_at(beat) for beat in range(6)], [10, 10, 12, 11, 14, 13])

    def test_beats(self):
        column = Column(walkers(), "AAA")
        self.assertEqual(Run(column, "").beats, 2)
        self.assertEqual(Run(column, "", None).beats, 2)
        self.assertEqual(Run(column, "aaaa", 0).beats, 0)
        self.assertEqual(list(Run(column, "aaaa", 0)), [(0, 0, 0)])
        self.assertEqual(len(Run(column, "a", 1000)), 1001)
        self.assertEqual(Run(Column(walkers(), "A" * 60), "a" * 400).beats, 459)
        for beats in (-1, 1001, True, False, "1", [1]):
            self.assertIs(raised(BadBeats, Run, column, "a", beats).beats, beats)

    def test_bad_callings_go_ahead(self):
        column = Column(walkers(), "AA")
        for calling, at in (("c", 0), ("ab?", 2), ("." * 401, -1), (None, -1), (["a"], -1)):
            self.assertEqual(raised(BadCalling, Run, column, calling, -1).number, at)
        self.assertEqual(Run(column, "." * 400).beats, 401)

    def test_beats_that_are_asked(self):
        run = Run(Column(walkers(), "AA"), "a", 3)
        for ask in (run.standings_at, run.fronts_at, run.gaps_at, run.length_at):
            ask(0)
            ask(3)
            for beat in (-1, 4, True, False, None, "0", [0]):
                self.assertIs(raised(BadBeats, ask, beat).beats, beat)

    def test_gaps_fall_below_zero(self):
        make = walkers(seats=[("A", "A", 0)])
        run = Run(Column(make, "AA"), "ab...", 5)
        self.assertEqual(run.gaps_at(3), (0,))
        self.assertEqual(Run(Column(two_kinds(space=0), "BA"), "a").gaps_at(1), (-2,))

    def test_one_group(self):
        run = Run(Column(MAKE, "A"), "a")
        self.assertEqual((run.gaps_at(1), run.length_at(1), run.first_breach((0, 0))), ((), 2, None))

    def test_against_a_plain_looker(self):
        rng = seeded(5)
        for _ in range(60):
            make = random_make(rng, kinds=2, stride=2)
            column = Column(make, "".join(rng.choice(make.all_names) for _ in range(rng.randint(1, 5))))
            calling = "".join(rng.choice(".ab") for _ in range(rng.randint(0, 8)))
            run = Run(column, calling, rng.randint(0, 20))
            rows = played(column, calling, run.beats)
            self.assertEqual([(run.standings_at(at), run.fronts_at(at)) for at in range(len(run))], rows)
            for at, (standings, fronts) in enumerate(rows):
                rears = [front - make[name][standing][1]
                         for name, standing, front in zip(column.groups, standings, fronts)]
                gaps = tuple(rear - front for rear, front in zip(rears, fronts[1:]))
                self.assertEqual(run.gaps_at(at), gaps)
                self.assertEqual(run.length_at(at), fronts[0] - rears[-1])
            wish = (1, rng.randint(1, 6))
            wrong = [(at, number) for at in range(len(run)) for number, gap in enumerate(run.gaps_at(at))
                     if not wish[0] <= gap <= wish[1]]
            self.assertEqual(run.first_breach(wish), wrong[0] if wrong else None)


class WishTest(unittest.TestCase):
    def test_breaches(self):
        run = Run(Column(walkers(), "AAA"), "ab")
        self.assertEqual([run.gaps_at(beat) for beat in range(5)], [(1, 1), (2, 1), (1, 2), (1, 1), (1, 1)])
        self.assertIsNone(run.first_breach((1, 2)))
        self.assertIsNone(run.first_breach([0, 60]))
        self.assertEqual(run.first_breach((1, 1)), (1, 0))
        self.assertEqual(run.first_breach((2, 2)), (0, 0))
        self.assertEqual(run.first_breach((0, 0)), (0, 0))
        mixed = Run(Column(walkers(seats=()), "AAA"), "a")
        self.assertEqual(mixed.first_breach((0, 1)), (1, 0))

    def test_first_group_of_the_beat(self):
        make = two_kinds(space=5, seats=[("A", "B", 7)])
        self.assertEqual(Run(Column(make, "AABA"), "").first_breach((0, 6)), (0, 1))

    def test_bad_wishes(self):
        run = Run(Column(walkers(), "AA"), "a")
        self.assertEqual(run.first_breach((60, 60)), (0, 0))
        for wish in ((-1, 5), (5, 4), (0, 61), (61, 61), (0,), (0, 1, 2), None, 5, "05", "ab", (True, 5), (0, True),
                     (0, None), (None, 0), [False, 3], {0: 1}):
            self.assertIs(raised(BadWish, run.first_breach, wish).wish, wish)
        self.assertEqual(run.first_breach((0, 0)), (0, 0))


if __name__ == "__main__":
    unittest.main()
