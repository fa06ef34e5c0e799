"""[43] chains that are late, the table of triples or the least stream, when a table is closed, undoers."""

import itertools
import unittest

from helpers import all_texts, hears, plain_obstacle, plain_steps, raised, random_obstacle, random_plan, seeded
from tailheard.chains import Chain
from tailheard.errors import BadBeats, BadMost, BadSign, TooMany
from tailheard.late import Late, judge_late, undoers
from tailheard.obstacles import Obstacle
from tailheard.plans import Plan
from tailheard.plantext import read_plan

FREE = read_plan("(A|B|.)*")
SWAP = Obstacle.plain("AB", "B", (1, 3))
BACK = Obstacle.plain("AB", "A", (1, 3))
EVEN = Obstacle.plain("AB", "A", (2, 2))

# For numbers of triples, chains, plans and beats that have just so many; whether they are late.
SIZED = {
    (700, True): ([("ABC", [((1, 0), (1, 0), (1, 0))], (3, 3))] * 2,
                  ([[(".", 2), ("A", 0), ("C", 1)], [("A", 0), ("B", 0)], [("B", 2), ("C", 1)]], [0, 1]), 6),
    (701, True): ([("ABC", [((0, 0), (0, 0), (0, 0))], (4, 4)), ("ABC", [((1, 0), (1, 0), (1, 0))], (4, 4))],
                  ([[("C", 2)], [("C", 0)], [("A", 2), ("B", 1), ("C", 0)]], [0, 1]), 8),
    (700, False): ([("AB", [((0, 0), (0, 0))], (2, 2))],
                   ([[(".", 0), ("A", 1)], [(".", 2), ("B", 2)], [(".", 0), ("A", 1), ("B", 1)]], [0]), 7),
    (701, False): ([("AB", [((1, 0), (1, 0))], (4, 4))],
                   ([[(".", 2), ("B", 1)], [(".", 1), ("B", 2)], [(".", 0), ("A", 2), ("B", 0)]], [2]), 6),
}


def sized(many, verdict):
    obstacles, plan, beats = SIZED[many, verdict]
    return Chain([Obstacle(*each) for each in obstacles]), Plan(*plan), beats


def out_of(chain, stream):
    for obstacle in chain:
        stream = plain_obstacle(obstacle, stream)
    return stream


def is_late(chain, stream, beats):
    return out_of(chain, stream) == ("." * beats + stream)[:len(stream)]


def plain_triples(chain, plan, beats):
    """The triples in order, and the least stream to each one."""
    first = (0, tuple(each.beginning for each in chain), "." * beats)
    found, layer = {first: ""}, [first]
    while layer:
        fresh = {}
        for triple in layer:
            for sign, onto in plain_steps(plan, triple[0]):
                further, passed = [], sign
                for obstacle, inside in zip(chain, triple[1]):
                    inside, passed = obstacle.beat(inside, passed)
                    further.append(inside)
                other = (onto, tuple(further), (triple[2] + sign)[1:])
                if other not in found:
                    fresh[other] = min(fresh.get(other, "~"), found[triple] + sign)
        layer = sorted(fresh, key=lambda triple: (fresh[triple], triple))
        found.update((triple, fresh[triple]) for triple in layer)
    return found


class LateTest(unittest.TestCase):
    def test_late(self):
        told = Late(Chain([Obstacle.plain("A", "", (1, 1))]), read_plan("A"), 1)
        self.assertEqual((bool(told), told.stream), (True, None))
        self.assertEqual(told.table, ((0, ((0, ".", ".", ""),), "."), (1, ((0, "A", ".", ""),), "A"),
                                      (-1, ((0, ".", ".", ""),), ".")))
        self.assertEqual((len(told), list(told)), (3, list(told.table)))
        self.assertTrue(Late(Chain([EVEN]), FREE, 2))
        self.assertEqual([Late(Chain([EVEN]), FREE, beats).stream for beats in (0, 1, 3)], ["A", "A.", "A.."])

    def test_obstacles_that_undo_one_another(self):
        self.assertTrue(Late(Chain([SWAP, BACK]), read_plan("(A...|B...)*"), 4))
        # With lesser gaps two come to the join at one beat, so one of them must wait.
        plan = read_plan("(A|B).?.?.?(A|B)")
        told = Late(Chain([SWAP, BACK]), plan, 4)
        self.assertEqual((bool(told), told.table, len(told), list(told)), (False, None, 0, []))
        wrong = [text for text in all_texts(".AB", 8) if hears(plan, text) and not is_late([SWAP, BACK], text, 4)]
        self.assertEqual(told.stream, wrong[0])
        self.assertEqual(raised(TooMany, Late, Chain([SWAP, BACK]), FREE, 4).word, "passage")

    def test_late_by_no_beat(self):
        self.assertTrue(Late(Chain([SWAP]), read_plan(".*"), 0))
        self.assertEqual(Late(Chain([SWAP]), read_plan("..A"), 0).stream, "..A")
        self.assertTrue(Late(Chain([SWAP]), read_plan(".*"), 12))
        four = Chain([Obstacle.plain("A", "", (4, 4))] * 3)
        self.assertTrue(Late(four, read_plan(".*A?"), 12))
        self.assertEqual(Late(four, read_plan(".*A?"), 11).stream, "A" + "." * 11)

    def test_what_is_still_inside(self):
        # Nothing else can come before the plan has ended, and then it is silence.
        self.assertEqual(Late(Chain([SWAP]), read_plan("B"), 1).stream, "B.")
        self.assertEqual(Late(Chain([SWAP]), read_plan("B"), 4).stream, "B...")

    def test_errors(self):
        for call in (Late, lambda *things: judge_late(*things, None)):
            self.assertEqual(raised(BadSign, call, Chain([SWAP]), Plan([[("C", 0)]]), None).sign, "C")
            for beats in (-1, 13, True, None, "2", (1,)):
                self.assertIs(raised(BadBeats, call, Chain([SWAP]), FREE, beats).beats, beats)

    def test_against_a_plain_looker(self):
        rng = seeded(481)
        verdicts = []
        while len(verdicts) < 120:
            names = rng.choice(["A", "AB"])
            plan = random_plan(rng, "." + names, most=3, share=0.6)
            obstacles = [random_obstacle(rng, names, most=2) for _ in range(rng.randint(1, 2))]
            if rng.random() < 0.5:
                obstacles = [Obstacle.plain(names, "A", (each.delays[0],) * 2) for each in obstacles]
            chain = Chain(obstacles)
            beats = sum(each.delays[0] for each in chain) + rng.choice([0, 0, 0, 1, -1])
            try:
                told = Late(chain, plan, beats)
            except TooMany:
                self.assertGreater(len(plain_triples(chain, plan, beats)), 700)
                continue
            verdicts.append(bool(told))
            wrong = [text for text in all_texts("." + names, 6) if hears(plan, text) and not is_late(chain, text, beats)]
            if wrong:
                self.assertEqual(told.stream, wrong[0])
            elif told.stream is None:
                self.assertEqual(told.table, tuple(plain_triples(chain, plan, beats)))
                self.assertIsNone(judge_late(chain, plan, beats, told.table))
            else:
                self.assertGreater(len(told.stream), 6)
                self.assertTrue(hears(plan, told.stream))
                self.assertFalse(is_late(chain, told.stream, beats))
                self.assertTrue(is_late(chain, told.stream[:-1], beats))
        self.assertGreater(min(verdicts.count(True), verdicts.count(False)), 25)

    def test_too_many(self):
        for many, verdict in SIZED:
            self.assertEqual(len(plain_triples(*sized(many, verdict))), many)
        told = Late(*sized(700, True))
        self.assertEqual((bool(told), len(told)), (True, 700))
        self.assertIsNone(judge_late(*sized(700, True), told.table))
        self.assertEqual(Late(*sized(700, False)).stream, "A..")
        for verdict in (True, False):
            self.assertEqual(raised(TooMany, Late, *sized(701, verdict)).word, "passage")
        self.assertIsNone(judge_late(*sized(701, True), tuple(plain_triples(*sized(701, True)))))
        self.assertIsNotNone(judge_late(*sized(701, False), tuple(plain_triples(*sized(701, False)))))


class JudgeTest(unittest.TestCase):
    def setUp(self):
        self.chain, self.plan, self.beats = Chain([SWAP, BACK]), read_plan("(A...|B...)*"), 4
        self.table = Late(self.chain, self.plan, self.beats).table

    def judge(self, table):
        return judge_late(self.chain, self.plan, self.beats, table)

    def behind(self, triple):
        found = []
        for sign, onto in plain_steps(self.plan, triple[0]):
            one, passed = SWAP.beat(triple[1][0], sign)
            two, _ = BACK.beat(triple[1][1], passed)
            found.append((onto, (one, two), (triple[2] + sign)[1:]))
        return found

    def test_closed(self):
        self.assertGreater(len(self.table), 9)
        self.assertIsNone(self.judge(self.table))
        self.assertIsNone(self.judge(self.table[::-1] + self.table))
        self.assertIsNone(self.judge([[state, [list(each) for each in insides], window]
                                      for state, insides, window in self.table]))
        for table in ((), self.table[1:], None, "", 0):
            self.assertEqual(self.judge(table), -1)

    def test_rows_taken_out(self):
        for at in range(1, len(self.table)):
            fewer = self.table[:at] + self.table[at + 1:]
            first = min(number for number, row in enumerate(fewer) if self.table[at] in self.behind(row))
            self.assertEqual(self.judge(fewer), first)

    def test_rows_that_tell_something_else(self):
        state, (one, two), window = self.table[0]
        for row in ((state, (one, (0, "A", "...", "")), window), (state, (one, two), "A..."),
                    (state, (one, (0, ".", "...", "B")), window)):
            self.assertEqual(self.judge(self.table + (row,)), len(self.table), row)
            self.assertEqual(self.judge((row, *self.table)), 0, row)
        # Somebody waits, and the window tells of just him: right, if what is behind it is there, too.
        row = (state, (one, (0, ".", "...", "BA")), "BA..")
        rows, queue = [row], [row]
        for here in queue:
            for onto in self.behind(here):
                if onto not in queue:
                    queue.append(onto)
        rows = tuple(each for each in queue if each not in self.table)
        self.assertIsNone(self.judge(self.table + rows))
        self.assertEqual(self.judge(self.table + rows[:1]), len(self.table))

    def test_forms(self):
        state, (one, two), window = self.table[0]
        for row in (None, (), (state, (one, two)), (state, (one, two), window, ""), (-2, (one, two), window),
                    (len(self.plan), (one, two), window), (False, (one, two), window), (state, (one,), window),
                    (state, (one, two, two), window), (state, None, window), (state, (one, two), window[1:]),
                    (state, (one, two), window + "."), (state, (one, two), "...C"), (state, (one, two), None),
                    (state, ((1, *one[1:]), two), window), (state, ((True, *one[1:]), two), window),
                    (state, ((-1, *one[1:]), two), window), (state, (one[:3], two), window),
                    (state, (one + ("",), two), window), (state, ((0, "..", "...", ""), two), window),
                    (state, ((0, "C", "...", ""), two), window), (state, ((0, ".", "..", ""), two), window),
                    (state, ((0, ".", "..b", ""), two), window), (state, ((0, ".", "...", "."), two), window),
                    (state, ((0, ".", "...", "C"), two), window), (state, ((0, ".", "...", None), two), window),
                    (state, ((0, ".", "...", ("A",)), two), window)):
            self.assertEqual(self.judge((row, *self.table)), 0, row)
            self.assertEqual(self.judge((row,)), -1, row)


class UndoersTest(unittest.TestCase):
    def test_found(self):
        spaced = read_plan("((A|B)...)*")
        self.assertEqual(undoers(SWAP, spaced, 3, 4), (("A", (1, 3), 0), ("A", (1, 3), 1), ("B", (3, 1), 0),
                                                       ("B", (3, 1), 1)))
        self.assertEqual(undoers(SWAP, spaced, 2, 4), ())
        self.assertEqual(undoers(SWAP, spaced, 3, 5), ())
        # Where both branches are alike, each part does.
        told = undoers(EVEN, FREE, 1, 3)
        self.assertEqual(told, tuple((part, (1, 1), first) for part in ("", "A", "AB", "B") for first in (0, 1)))

    def test_against_a_plain_looker(self):
        rng = seeded(482)
        sizes = {}
        for _ in range(12):
            names = rng.choice(["A", "AB"])
            obstacle = random_obstacle(rng, names, most=3)
            plan = read_plan(f"(({'|'.join(names)}){'.' * rng.randint(1, 3)})*")
            most, beats = rng.randint(1, 2), rng.randint(2, 4)
            told = []
            for part in ["".join(row) for many in range(len(names) + 1) for row in itertools.combinations(names, many)]:
                for zero, one, first in itertools.product(range(1, most + 1), range(1, most + 1), (0, 1)):
                    if Late(Chain([obstacle, Obstacle.plain(names, part, (zero, one), first)]), plan, beats):
                        told.append((part, (zero, one), first))
            self.assertEqual(undoers(obstacle, plan, most, beats), tuple(sorted(told)))
            sizes[len(told) > 0] = True
        self.assertEqual(len(sizes), 2)

    def test_errors(self):
        self.assertEqual(raised(BadSign, undoers, SWAP, Plan([[("C", 0)]]), None, None).sign, "C")
        for most in (0, 4, -1, True, None, "1"):
            self.assertIs(raised(BadMost, undoers, SWAP, FREE, most, None).most, most)
        for beats in (1, 8, -1, True, None, "2"):
            self.assertIs(raised(BadBeats, undoers, SWAP, FREE, 1, beats).beats, beats)
        for beats in (2, 7):
            self.assertEqual(undoers(SWAP, read_plan("AB"), 1, beats), ())

    def test_too_many(self):
        self.assertEqual(raised(TooMany, undoers, Obstacle.plain("ABCD", "A", (3, 4)), read_plan("(A|B|C|D|.)*"), 1,
                                7).word, "passage")


if __name__ == "__main__":
    unittest.main()
