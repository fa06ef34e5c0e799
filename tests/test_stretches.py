"""[22] greatest and least lengths of a file, twins, examples; [23] the growth of a file."""

import unittest
from math import gcd

from helpers import FREE, WALK, hears, raised, random_make, random_plan, seeded, two_kinds, walkers
from tailheard.errors import BadNumber, BadSign, TooLong, TooMany
from tailheard.files import File
from tailheard.heard import steps
from tailheard.makes import Make
from tailheard.paces import Pace
from tailheard.plans import Plan
from tailheard.plantext import read_plan
from tailheard.runs import Run
from tailheard.stretches import Stretch

# A word `a` sets off, `b` halts: a column of any length stretches by as many beats as the plan lets go by.
MARCH = read_plan("(a.b.)*")


def plain_lengths(file, n, calls, beats, best):
    """The greatest (or least) length up to each beat, by all that the first and the last group can have heard."""
    make = file.make
    column = file.column_of(n)
    delay = column.delay_row[-1]
    signs = "." + make.words
    one, two = make[column.groups[0]], make[column.groups[-1]]
    layer = {(-2, 0, 0, "." * delay): 0}
    found = [column.rest_length]
    for _ in range(beats):
        further = {}
        for (state, first, last, window), worth in layer.items():
            for sign, onto in steps(calls, state):
                heard = (window + sign)[0]
                leader, follower = one[first][2][signs.index(sign)], two[last][2][signs.index(heard)]
                key = (onto, leader, follower, (window + sign)[1:])
                value = worth + one[leader][0] - two[follower][0]
                further[key] = best(further.get(key, value), value)
        layer = further
        lengths = [column.rest_length + worth + two[key[2]][1] - two[0][1] for key, worth in layer.items()]
        found.append(best(found[-1], best(lengths)))
    return found


def is_called(calls, text):
    """Whether a string is some silences and then a string that is heard."""
    rest = len(text) - len(text.lstrip("."))
    return any(hears(calls, text[cut:]) for cut in range(rest + 1))


class StretchTest(unittest.TestCase):
    def test_a_march(self):
        file = File(walkers(), "", "A", "")
        told = Stretch(file, MARCH)
        self.assertEqual((told.file, told.calls), (file, MARCH))
        self.assertEqual([told(n) for n in range(1, 10)], [2, 6, 10, 13, 16, 20, 24, 27, 30])
        self.assertEqual(told.growth, (7, 2))
        self.assertEqual(told(4 * 10 ** 30 + 1), 2 + 14 * 10 ** 30)
        least = Stretch(file, MARCH, least=True)
        self.assertEqual([least(n) for n in range(1, 6)], [2, 5, 8, 11, 14])
        self.assertIsNone(least.growth)

    def test_examples(self):
        file = File(walkers(), "", "A", "")
        told = Stretch(file, MARCH)
        self.assertEqual(told.example(1), "")
        for n in (2, 5, 17):
            self.check_example(file, n, MARCH, told)
        self.assertEqual(len(Stretch(file, read_plan("ab")).example(2)), len("a"))

    def check_example(self, file, n, calls, told):
        text = told.example(n)
        self.assertTrue(is_called(calls, text))
        run = Run(file.column_of(n), text)
        self.assertEqual(run.length_at(len(text)), told(n))

    def test_no_greatest_length(self):
        # Words set the kind B walking for ever, A not: behind A, nothing holds it back.
        make = Make("ab", [("A", 1, ((0, 2, (0, 0, 0)),)), ("B", 1, ((0, 2, (0, 1, 0)), (1, 2, (1, 1, 0))))])
        ahead = File(make, "B", "A", "")
        self.assertIsNone(Stretch(ahead, FREE)(1))
        self.assertIsNone(Stretch(ahead, FREE)(10 ** 30))
        self.assertIsNone(Stretch(ahead, FREE).growth)
        self.assertIsNone(Stretch(ahead, FREE).example(3))
        self.assertEqual(raised(TooLong, Stretch(ahead, FREE).example, 41).number, 41)
        self.assertEqual([Stretch(ahead, FREE, least=True)(n) for n in (1, 2)], [5, 8])
        behind = File(make, "", "A", "B")
        self.assertIsNone(Stretch(behind, FREE, least=True)(1))
        self.assertIsNone(Stretch(behind, FREE, least=True).example(1))
        self.assertEqual(Stretch(behind, FREE)(2), 8)
        self.assertEqual(Stretch(behind, FREE).growth, (3, 1))
        # Between walkers it does not matter who stands in between.
        self.assertEqual(Stretch(File(make, "B", "A", "B"), FREE)(3), 14 + 4)

    def test_bodies_of_the_last_group(self):
        file = File(two_kinds(), "A", "B", "")
        told = Stretch(file, read_plan("ab"))
        # The last group is two paces longer when it has just heard a word; the head halts one pace ahead by then.
        self.assertEqual((file.length_of(1), told(1)), (4, 7))
        self.check_example(file, 1, read_plan("ab"), told)
        calm = Make("ab", [("A", 1, ((0, 1, (0, 1, 0)), (0, 5, (0, 1, 0))))])
        alone = Stretch(File(calm, "", "A", ""), FREE)
        self.assertEqual((alone(1), alone.example(1), alone(2)), (5, "a", 7))
        self.assertEqual(Stretch(File(calm, "", "A", ""), FREE, least=True)(2), 3)
        self.assertEqual(Stretch(File(calm, "", "A", ""), FREE, least=True).example(1), "")

    def test_the_way_to_the_best_twin(self):
        # The last group is longer behind `b`; to stretch the column, `a` must be called ahead of it.
        make = Make("ab", [("A", 1, WALK), ("B", 1, ((0, 2, (0, 0, 1)), (0, 6, (1, 1, 1))))])
        told = Stretch(File(make, "A", "B", ""), read_plan("b|ab"))
        self.assertEqual(told(1), 5 + 1 + 4)
        self.check_example(File(make, "A", "B", ""), 1, read_plan("b|ab"), told)

    def test_against_plain_lookers(self):
        rng = seeded(150)
        seen = set()
        for at in range(150):
            make = random_make(rng, stride=rng.choice([0, 1, 2]))
            texts = ["".join(rng.choice(make.all_names) for _ in range(rng.randint(least, 2))) for least in (0, 1, 0)]
            file = File(make, *texts)
            calls = random_plan(rng, ".ab", most=3)
            least = at % 2 == 1
            try:
                told = Stretch(file, calls, least=least)
            except TooMany:
                continue
            for n in (1, 2):
                if file.delay_of(n) > 3:
                    continue
                lengths = plain_lengths(file, n, calls, 60, min if least else max)
                if told(n) is None:
                    self.assertNotEqual(lengths[60], lengths[30])
                    self.assertIsNone(told.example(n))
                else:
                    self.assertEqual((lengths[30], lengths[60]), (told(n), told(n)))
                    self.check_example(file, n, calls, told)
                seen.add((told(n) is None, least, n))
        self.assertEqual(len(seen), 8)

    def test_growth(self):
        rng = seeded(151)
        for _ in range(40):
            make = random_make(rng, stride=rng.choice([1, 3]))
            part = "".join(rng.choice(make.all_names) for _ in range(rng.randint(1, 3)))
            file = File(make, "", part, "")
            calls = random_plan(rng, ".ab", most=4)
            try:
                told = Stretch(file, calls)
            except TooMany:
                continue
            if told(1) is None:
                self.assertIsNone(told.growth)
                continue
            above, below = told.growth
            self.assertEqual((gcd(above, below), below >= 1), (1, True))
            great = 10 ** 9 * 27720
            gain = told(1 + 2 * great) - told(1 + great)
            self.assertEqual(gain * below, above * great)
            pace = Pace(make, part[0], calls).pace
            self.assertEqual(gain * pace[1], great * (file.length_of_part() * pace[1]
                                                      + pace[0] * file.delay_of_part()))

    def test_delays_of_examples(self):
        file = File(walkers(), "", "A", "")
        told = Stretch(file, MARCH)
        self.assertGreaterEqual(len(told.example(41)), 40)
        self.check_example(file, 41, MARCH, told)
        self.assertEqual(raised(TooLong, told.example, 42).number, 41)
        self.assertEqual(raised(TooLong, told.example, 10 ** 39).number, 10 ** 39 - 1)
        self.check_example(file, 40, MARCH, Stretch(file, MARCH, least=True))

    def test_numbers(self):
        told = Stretch(File(walkers(), "", "A", ""), MARCH)
        for n in (0, -1, True, None, "1"):
            self.assertIs(raised(BadNumber, told, n).number, n)
            self.assertIs(raised(BadNumber, told.example, n).number, n)
        make = Make("ab", [("A", 1, ((0, 2, (0, 0, 0)),)), ("B", 1, ((0, 2, (0, 1, 0)), (1, 2, (1, 1, 0))))])
        self.assertIs(raised(BadNumber, Stretch(File(make, "B", "A", ""), FREE), 0).number, 0)

    def test_too_many(self):
        toggle = ((0, 1, (0, 1)), (0, 1, (1, 0)))
        make = Make("a", [("A", 1, toggle), ("B", 1, ((0, 1, (0, 0)),))])
        both = [[(".", at + 1), ("a", at + 1)] for at in range(1, 49)]
        calls = Plan([[("a", 1)], *both, []], [49])
        more = Plan([[(".", 1), ("a", 1)], *both, []], [49])
        for least in (False, True):
            self.assertIsNotNone(Stretch(File(make, "", "A", ""), calls, least=least)(1))
            self.assertEqual(raised(TooMany, Stretch, File(make, "", "A", ""), more, least=least).word, "node")
        # The twins of both kinds are too many, or the nodes of the first one; those of the last one alone are not.
        self.assertEqual(raised(TooMany, Stretch, File(make, "", "B", "A"), more).word, "node")
        self.assertEqual(raised(TooMany, Stretch, File(make, "A", "B", ""), more).word, "node")
        self.assertEqual(Stretch(File(make, "B", "A", "B"), more)(1), 5)
        # Twins that are more than the nodes: both toggle, each by a word of its own.
        one = ((0, 1, (0, 1, 0)), (0, 1, (1, 0, 1)))
        other = ((0, 1, (0, 0, 1)), (0, 1, (1, 1, 0)))
        two = Make("ab", [("A", 1, one), ("B", 1, other)])
        rows = [[(sign, at + 1) for sign in ".ab"] for at in range(30)] + [[]]
        self.assertEqual(raised(TooMany, Stretch, File(two, "", "AB", ""), Plan(rows, [30])).word, "node")
        self.assertEqual(Stretch(File(two, "", "AB", "A"), Plan(rows, [30]))(1), 5)

    def test_too_many_beats(self):
        sway = ((0, 1, (0, 1)), (1, 1, (2, 1)), (-1, 1, (1, 1)))
        make = Make("a", [("A", 1, sway), ("B", 1, ((0, 1, (0, 0)),))])
        calls = Plan([[(".", at + 1)] for at in range(58)] + [[("a", 59)], []], [59])
        self.assertEqual(raised(TooMany, Stretch, File(make, "", "A", ""), calls).word, "beat")
        # Also where a column of one group needs no rises at all.
        self.assertEqual(raised(TooMany, Stretch, File(make, "A", "B", ""), calls).word, "beat")
        self.assertEqual(Stretch(File(make, "", "B", "A"), calls)(1), 3)

    def test_order_of_errors(self):
        file = File(walkers(), "", "A", "")
        self.assertEqual(raised(BadSign, Stretch, file, Plan([[("c", 0)]])).sign, "c")


if __name__ == "__main__":
    unittest.main()
