"""[10] lengths of a column plan, situations, lag and period, the column for a length."""

import unittest

from helpers import FREE, raised, random_make, random_plan, seeded, two_kinds
from tailheard.columns import Column
from tailheard.errors import BadColumn, BadSign, NoLength, TooMany
from tailheard.lengths import Lengths
from tailheard.makes import Make
from tailheard.plans import Plan

ANY = Plan([[("A", 0)]])


def make_of(space=0, **bodies):
    """A make whose kinds only stand, with these bodies."""
    return Make("a", [(name, 1, ((0, body, (0, 0)),)) for name, body in bodies.items()], space)


def apart(body):
    """A make with one kind whose groups stand 40 paces apart."""
    return Make("a", [("A", 1, ((0, body, (0, 0)),))], 0, [("A", "A", 40)])


def ring(many, end=1):
    """Columns whose number of groups is `end` plus a multiple of `many`."""
    return Plan([[("A", 1)]] + [[("A", at + 1 if at < many else 1)] for at in range(1, many + 1)], [end])


def table_of(make, plan, most):
    """For each length up to the most, the pairs (state, name) that stand there."""
    found = [set() for _ in range(most + 60)]
    for name, onto in plan.states[0]:
        found[make[name][0][1]].add((onto, name))
    for length in range(most + 1):
        for state, last in found[length]:
            for name, onto in plan.states[state]:
                found[length + make.seat_of(last, name) + make[name][0][1]].add((onto, name))
    return found[:most + 1]


def is_repeated(table):
    """Whether two of the situations at 12 to 999 are the same."""
    rows = {}
    for x in range(12, 1000):
        rows.setdefault(tuple(frozenset(table[x - j]) if x >= j else frozenset() for j in range(52)), x)
    return len(rows) < 988


class LengthsTest(unittest.TestCase):
    def test_one_kind(self):
        told = Lengths(make_of(A=2, space=1), ANY)
        # 2, 5, 8, ..
        self.assertEqual((told.lag, told.period, told.first), (0, 3, (2,)))
        self.assertEqual([x for x in range(20) if x in told], [2, 5, 8, 11, 14, 17])
        self.assertEqual((told.make, told.plan), (make_of(A=2, space=1), ANY))

    def test_great_integers(self):
        told = Lengths(make_of(A=2, space=1), ANY)
        great = 3 * 10 ** 38
        self.assertEqual([great + x in told for x in range(3)], [False, False, True])
        self.assertIs(9 * 10 ** 39 + 2 in told, True)

    def test_no_integers(self):
        told = Lengths(make_of(A=1), ANY)
        self.assertIs(1 in told, True)
        for thing in (True, False, None, "1", [1], (1,), -1, 0, -10 ** 39):
            self.assertIs(thing in told, False, thing)

    def test_finitely_many(self):
        told = Lengths(make_of(A=2, B=5), Plan.bearing(["A", "AB", "BBB"]))
        self.assertEqual((told.lag, told.period, told.first), (16, 1, (2, 7, 15)))
        self.assertIs(15 in told, True)
        self.assertIs(16 in told, False)
        self.assertIs(10 ** 39 in told, False)
        one = Lengths(make_of(A=12), Plan.bearing(["A"]))
        self.assertEqual((one.lag, one.period, one.first), (13, 1, (12,)))

    def test_no_columns(self):
        told = Lengths(make_of(A=2), Plan([[]]))
        self.assertEqual((told.lag, told.period, told.first), (0, 1, ()))
        self.assertIs(0 in told, False)

    def test_all_lengths(self):
        told = Lengths(make_of(A=1), ANY)
        self.assertEqual((told.lag, told.period, told.first), (1, 1, (1,)))
        mixed = Lengths(make_of(A=2, B=5), Plan([[("A", 0), ("B", 0)]]))
        self.assertEqual((mixed.lag, mixed.period, mixed.first), (4, 1, (2, 4)))

    def test_seats_count(self):
        make = Make("a", [("A", 1, ((0, 1, (0, 0)),)), ("B", 1, ((0, 2, (0, 0)),))], 0, [("A", "B", 40), ("B", "A", 7)])
        told = Lengths(make, Plan([[("A", 1)], [("B", 0)]]))
        self.assertEqual([x for x in range(100) if x in told], [1, 43, 51, 93])
        self.assertEqual((told.lag, told.period, told.first), (0, 50, (1, 43)))

    def test_against_a_plain_looker(self):
        rng = seeded(11)
        for _ in range(60):
            make = random_make(rng, kinds=rng.randint(1, 3))
            plan = random_plan(rng, make.all_names)
            told = Lengths(make, plan)
            table = table_of(make, plan, 1200)
            flags = [any(state in plan.ends for state, _ in points) for points in table]
            self.assertEqual([x in told for x in range(1200)], flags[:1200])
            fits = lambda lag, period: flags[lag:-period] == flags[lag + period:]  # noqa: E731
            self.assertTrue(fits(told.lag, told.period))
            self.assertFalse(any(fits(600, period) for period in range(1, told.period)))
            self.assertFalse(told.lag and fits(told.lag - 1, told.period))
            self.assertEqual(told.first, tuple(x for x in range(told.lag + told.period) if flags[x]))

    def test_situations_up_to_999(self):
        # Seven paces and a seat of 40: rounds of 47, so situations are the same 987 behind one another, 12 and 999.
        make = apart(7)
        self.assertEqual(Lengths(make, ring(21)).period, 987)
        # Rounds of 52, nineteen times: 12 and 1000.
        wide = apart(12)
        self.assertEqual(Lengths(wide, ring(18)).period, 936)
        self.assertEqual(raised(TooMany, Lengths, wide, ring(19)).word, "length")
        for make, plan in ((make, ring(21)), (make, ring(22)), (wide, ring(19)), (make_of(A=1), ring(47)),
                           (make_of(A=12), ring(59)), (apart(8), ring(20))):
            if is_repeated(table_of(make, plan, 999)):
                self.assertGreater(Lengths(make, plan).period, 0)
            else:
                raised(TooMany, Lengths, make, plan)

    def test_short_windows_are_as_good_as_late_ones(self):
        # The situation at 12 looks back beyond 0, where nothing stands, as nothing stands between far groups.
        make = apart(12)
        plan = ring(18, end=3)
        told = Lengths(make, plan)
        self.assertTrue(is_repeated(table_of(make, plan, 999)))
        self.assertEqual((told.lag, told.period, told.first), (0, 936, (116,)))

    def test_bad_signs(self):
        self.assertEqual(raised(BadSign, Lengths, two_kinds(), FREE).sign, ".")


class ColumnForALengthTest(unittest.TestCase):
    def test_least_columns(self):
        make = make_of(A=2, B=5, C=3)
        told = Lengths(make, Plan([[("A", 0), ("B", 0), ("C", 0)]]))
        self.assertEqual(told.column_of(5), Column(make, "B"))
        self.assertEqual(told.column_of(7).groups, "AB")
        self.assertEqual(told.column_of(8).groups, "BC")
        self.assertEqual(told.column_of(9).groups, "AAB")

    def test_against_all_columns(self):
        rng = seeded(12)
        for _ in range(60):
            make = random_make(rng, kinds=rng.randint(1, 3))
            plan = random_plan(rng, make.all_names)
            told = Lengths(make, plan)
            least = {}
            for groups in plan.strings(6):
                if groups:
                    least.setdefault(Column(make, groups).rest_length, groups)
            for length, groups in least.items():
                self.assertEqual(told.column_of(length), Column(make, groups))

    def test_no_length(self):
        told = Lengths(make_of(A=1, space=14), ANY)
        self.assertEqual(told.column_of(1).groups, "A")
        self.assertEqual(told.column_of(886).groups, "A" * 60)
        self.assertIs(901 in told, True)
        for length in (0, 2, 900, 901, 10 ** 39, -1, True, False, None, "1", [1]):
            self.assertIs(raised(NoLength, told.column_of, length).length, length)
        self.assertEqual(told.column_of(16).groups, "AA")

    def test_bounds_of_lengths(self):
        told = Lengths(make_of(A=12, space=3), ANY)
        self.assertEqual(len(told.column_of(897)), 60)
        whole = Lengths(make_of(A=12, B=15 - 3, space=3), ANY)
        self.assertEqual(raised(NoLength, whole.column_of, 900).length, 900)
        self.assertEqual(len(Lengths(make_of(A=10, space=0, B=9), Plan([[("A", 0), ("B", 0)]])).column_of(550)), 55)
        self.assertEqual(len(Lengths(make_of(A=12, space=4), Plan([[("A", 0)]])).column_of(892)), 56)

    def test_more_than_sixty_groups(self):
        told = Lengths(make_of(A=1), ANY)
        self.assertEqual(told.column_of(60).groups, "A" * 60)
        self.assertEqual(raised(BadColumn, told.column_of, 61).number, -1)
        self.assertEqual(raised(BadColumn, told.column_of, 900).number, -1)
        ends = Lengths(make_of(A=1, B=12), Plan([[("A", 1)], [("A", 1), ("B", 1)]]))
        self.assertEqual(ends.column_of(610).groups, "A" * 10 + "B" * 50)
        self.assertEqual(raised(BadColumn, ends.column_of, 660).number, -1)
        self.assertEqual(ends.column_of(61).groups, "ABBBBB")


if __name__ == "__main__":
    unittest.main()
