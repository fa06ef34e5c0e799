"""[47] looks, watchers, knowledges; [48] doubt, ranks, the string and the loop, when a table is right."""

import unittest

from helpers import FREE, crowd, plain_steps, raised, random_make, random_plan, seeded, two_kinds, walkers
from tailheard.betweens import Betweens
from tailheard.errors import BadLooks, BadSeen, BadSign, TooMany, Unknown
from tailheard.makes import Make
from tailheard.plans import Plan
from tailheard.plantext import read_plan
from tailheard.watch import Watch, judge_watch

MAKE = walkers()
ONCE = read_plan("a.*b")
# For numbers of knowledges, makes, looks, the two kinds and plans that have just so many.
SIZED = {
    250: (("ab", [("B", 2, ((0, 1, (0, 1, 1)), (0, 1, (1, 1, 0)))),
                  ("C", 1, ((0, 2, (0, 3, 3)), (0, 3, (3, 2, 3)), (1, 2, (1, 0, 1)), (1, 2, (3, 2, 0))))]),
          ("ba", "abab"), "BC", ([[("a", 0), ("b", 1)], [("a", 0), ("b", 2)], [(".", 2), ("b", 0)]], [1])),
    251: (("ab", [("A", 2, ((0, 2, (0, 1, 0)), (1, 2, (1, 2, 0)), (-1, 2, (2, 0, 0)))),
                  ("B", 2, ((0, 3, (0, 2, 1)), (0, 1, (3, 1, 0)), (0, 2, (2, 3, 0)), (0, 3, (0, 0, 0))))]),
          ("abb", "abbb"), "AB", ([[("a", 3), ("b", 1)], [], [(".", 3), ("a", 0), ("b", 3)], [("a", 2), ("b", 3)]],
                                  [1, 3])),
}


def sized(many):
    make, looks, names, plan = SIZED[many]
    return Make(*make), looks, names[0], names[1], Plan(*plan), "ahead"


def moves_of(make, ahead, behind, calls, between):
    """The betweens behind a between, told from the attributes of makes and plans alone."""
    state, first, second, window = between
    found = []
    for sign, onto in plain_steps(calls, state):
        signs = "." + make.words
        found.append((onto, make[ahead][first][2][signs.index(sign)],
                      make[behind][second][2][signs.index(window[0])], window[1:] + sign))
    return found


class Looker:
    """All knowledges of a watcher, found look by look."""

    def __init__(self, make, looks, ahead, behind, calls, seen):
        by_name = dict(zip(make.all_names, looks))
        self.seen = 1 if seen == "ahead" else 2
        self.looks = {1: by_name[ahead], 2: by_name[behind]}
        self.behind = lambda between: moves_of(make, ahead, behind, calls, between)
        self.first = tuple(sorted(Betweens(make, ahead, behind, calls)))
        self.texts = {self.first: ""}
        queue = [self.first]
        for here in queue:
            for look, onto in sorted(self.onward(here).items()):
                if onto not in self.texts and len(queue) < 400:
                    self.texts[onto] = self.texts[here] + look
                    queue.append(onto)

    def onward(self, knowledge):
        found = {}
        for between in knowledge:
            for onto in self.behind(between):
                found.setdefault(self.looks[self.seen][onto[self.seen]], set()).add(onto)
        return {look: tuple(sorted(each)) for look, each in found.items()}

    def is_doubtful(self, knowledge):
        return len({self.looks[3 - self.seen][between[3 - self.seen]] for between in knowledge}) > 1

    def least_loop(self, home):
        layer, seen = [("", home)], set()
        while layer:
            further = []
            for text, here in layer:
                for look, onto in sorted(self.onward(here).items()):
                    if self.is_doubtful(onto):
                        if onto == home:
                            return text + look
                        if onto not in seen:
                            seen.add(onto)
                            further.append((text + look, onto))
            layer = further
        return None


class WatchTest(unittest.TestCase):
    def test_doubt_that_ends(self):
        told = Watch(MAKE, ["rw"], "A", "A", ONCE, "ahead")
        self.assertEqual((bool(told), told.text, told.loop), (True, None, None))
        self.assertEqual(told.table[0][0], tuple(sorted(Betweens(MAKE, "A", "A", ONCE))))
        # Who sees the one ahead knows a beat later how the one behind looks.
        self.assertEqual(told.delay, max(rank for _, rank in told.table))
        self.assertEqual((len(told), list(told)), (len(told.table), list(told.table)))
        self.assertIsNone(judge_watch(MAKE, ["rw"], "A", "A", ONCE, "ahead", told.table))

    def test_looks_that_are_all_alike(self):
        alike = Watch(MAKE, ["xx"], "A", "A", FREE, "ahead")
        self.assertEqual((bool(alike), alike.delay), (True, 0))
        self.assertEqual({rank for _, rank in alike}, {0})
        # One sees nothing of the one, and the other one looks different: the doubt can last for ever.
        make = two_kinds()
        told = Watch(make, ["xy", "zz"], "B", "A", FREE, "behind")
        blind = Watch(make, ["xy", "zz"], "B", "A", FREE, "ahead")
        self.assertTrue(told)
        self.assertEqual((bool(blind), blind.table, blind.delay, len(blind), list(blind)), (False, None, None, 0, []))
        self.assertEqual((blind.text, blind.loop), ("", "z"))

    def test_both_seen_groups(self):
        for seen in ("ahead", "behind"):
            told = Watch(MAKE, ("rw",), "A", "A", FREE, seen)
            looker = Looker(MAKE, ("rw",), "A", "A", FREE, seen)
            self.assertEqual(told.after("rw"), looker.onward(looker.onward(looker.first)["r"])["w"])

    def test_looks_that_are_not_possible(self):
        told = Watch(MAKE, ["rw"], "A", "A", ONCE, "ahead")
        self.assertEqual(told.after(""), told.table[0][0])
        for sights in ("x", "wrw", "rx", "xr", "R", "."):
            self.assertEqual(told.after(sights), ())
        self.assertNotEqual(told.after("wwr"), ())

    def test_against_a_plain_looker(self):
        rng = seeded(521)
        verdicts = []
        while len(verdicts) < 80:
            make = random_make(rng, kinds=2)
            calls = random_plan(rng, ".ab", share=0.5)
            ahead, behind = rng.choice(make.all_names), rng.choice(make.all_names)
            looks = ["".join(rng.choice("xyz"[:rng.randint(1, 3)]) for _ in make[name]) for name in make]
            seen = rng.choice(["ahead", "behind"])
            looker = Looker(make, looks, ahead, behind, calls, seen)
            if len(looker.texts) > 80:
                continue
            told = Watch(make, looks, ahead, behind, calls, seen)
            verdicts.append(bool(told))
            doubts = [each for each in looker.texts if looker.is_doubtful(each)]
            loops = [(looker.texts[each], looker.least_loop(each)) for each in doubts]
            loops = [pair for pair in loops if pair[1] is not None]
            self.assertEqual(bool(told), not loops)
            for knowledge, text in looker.texts.items():
                self.assertEqual(told.after(text), knowledge)
            if loops:
                self.assertEqual((told.text, told.loop), loops[0])
                continue
            ranks = dict(told.table)
            self.assertEqual(list(ranks), list(looker.texts))
            for knowledge, rank in told:
                onward = [ranks[onto] for onto in looker.onward(knowledge).values() if looker.is_doubtful(onto)]
                self.assertEqual(rank, 1 + max(onward, default=0) if looker.is_doubtful(knowledge) else 0)
            self.assertEqual(told.delay, max(ranks.values()))
            self.assertIsNone(judge_watch(make, looks, ahead, behind, calls, seen, told.table))
        self.assertGreater(min(verdicts.count(True), verdicts.count(False)), 12)

    def test_too_many(self):
        for many in SIZED:
            self.assertEqual(len(Looker(*sized(many)).texts), many)
        self.assertIn(bool(Watch(*sized(250))), (True, False))
        self.assertEqual(raised(TooMany, Watch, *sized(251)).word, "knowledge")
        self.assertEqual(judge_watch(*sized(251), ()), -1)
        make, calls = crowd(601)
        for call in (Watch, lambda *things: judge_watch(*things, ())):
            self.assertEqual(raised(TooMany, call, make, ["x", "x", "x"], "A", "B", calls, "ahead").word, "between")
        make, calls = crowd(600)
        # The betweens are counted ahead of the knowledges.
        self.assertEqual(judge_watch(make, ["x", "x", "x"], "A", "B", calls, "ahead", ()), -1)

    def test_looks(self):
        make = two_kinds()
        for call in (Watch, lambda *things: judge_watch(*things, None)):
            for looks in ((), ("xy",), ("xy",) * 3, None, "xy", 0, {"A": "xy", "B": "xy"}):
                self.assertEqual(raised(BadLooks, call, make, looks, None, None, None, None).number, -1)
            for wrong in ("x", "xyz", "", "Xy", "x.", "x1", None, True, ("x", "y"), ["x", "y"]):
                self.assertEqual(raised(BadLooks, call, make, (wrong, "xy"), "C", None, None, None).number, 0)
                self.assertEqual(raised(BadLooks, call, make, ["xy", wrong], "C", None, None, None).number, 1)
            self.assertEqual(raised(BadLooks, call, make, ("x", "y"), "C", None, None, None).number, 0)

    def test_order_of_errors(self):
        make, looks = two_kinds(), ["xy", "xy"]
        for call in (Watch, lambda *things: judge_watch(*things, None)):
            self.assertEqual(raised(Unknown, call, make, looks, "C", "D", Plan([[("c", 0)]]), None).name, "C")
            self.assertEqual(raised(Unknown, call, make, looks, "A", "D", Plan([[("c", 0)]]), None).name, "D")
            self.assertEqual(raised(BadSign, call, make, looks, "A", "B", Plan([[("c", 0)]]), None).sign, "c")
            for seen in ("", "front", None, True, 0, ["ahead"], ("ahead",), "Ahead", "head"):
                self.assertIs(raised(BadSeen, call, make, looks, "A", "B", FREE, seen).word, seen)
        # The seen group is judged ahead of what is too many.
        big, calls = crowd(601)
        self.assertEqual(raised(BadSeen, Watch, big, ["x", "x", "x"], "A", "B", calls, "both").word, "both")


class JudgeTest(unittest.TestCase):
    def setUp(self):
        self.things = (MAKE, ["rw"], "A", "A", ONCE, "ahead")
        self.table = Watch(*self.things).table
        self.looker = Looker(*self.things)

    def judge(self, table):
        return judge_watch(*self.things, table)

    def test_right(self):
        self.assertGreater(max(rank for _, rank in self.table), 0)
        for whole in (self.table, self.table[::-1], self.table * 2,
                      [[[list(each) for each in knowledge], rank] for knowledge, rank in self.table]):
            self.assertIsNone(self.judge(whole))
        # All ranks can be greater, one by one from above; those of knowledges not in doubt do not count.
        self.assertIsNone(self.judge(tuple((knowledge, rank * 2) for knowledge, rank in self.table)))
        self.assertIsNone(self.judge(tuple((knowledge, rank or 99) for knowledge, rank in self.table)))

    def test_doubt_that_comes_up_again(self):
        make = Make("ab", [("B", 1, ((0, 1, (0, 0, 1)), (-1, 2, (0, 1, 0))))])
        things = (make, ["xy"], "B", "B", read_plan("b*"), "behind")
        table = Watch(*things).table
        looker = Looker(*things)
        sure = [knowledge for knowledge, rank in table if rank == 0]
        self.assertTrue(any(looker.is_doubtful(onto) for each in sure for onto in looker.onward(each).values()))
        self.assertIsNone(judge_watch(*things, table))

    def test_beginning(self):
        for table in ((), self.table[1:], None, "", 0):
            self.assertEqual(self.judge(table), -1)
        self.assertEqual(self.judge(((self.table[0][0], 99),)), 0)

    def test_rows_taken_out(self):
        for at in range(1, len(self.table)):
            fewer = self.table[:at] + self.table[at + 1:]
            self.assertEqual(self.judge(fewer), min(
                number for number, (knowledge, _) in enumerate(fewer)
                if self.table[at][0] in self.looker.onward(knowledge).values()))

    def test_ranks(self):
        for at, (knowledge, rank) in enumerate(self.table):
            if rank > 0:
                table = self.table[:at] + ((knowledge, rank - 1),) + self.table[at + 1:]
                # A rank of 1 less is too little for the row itself, as ranks count no more than there must be.
                self.assertEqual(self.judge(table), at)
        ranks = dict(self.table)
        first = self.table[0][0]
        # A row of the same knowledge with a lesser rank, behind: the first one is looked up, but each is judged.
        self.assertEqual(self.judge(self.table + ((first, ranks[first] - 1),)), len(self.table))

    def test_knowledges_that_are_never_reached(self):
        lone = ((0, 0, 0, "."), (0, 1, 0, "."))
        self.assertNotIn(lone, dict(self.table))
        queue = [lone]
        for here in queue:
            queue += [onto for onto in self.looker.onward(here).values() if onto not in queue]
        more = tuple((each, 50 - at) for at, each in enumerate(queue) if each not in dict(self.table))
        self.assertIsNone(self.judge(self.table + more))
        self.assertEqual(self.judge(self.table + ((lone, 50),)), None if len(more) == 1 else len(self.table))
        self.assertEqual(self.judge(self.table + ((lone, 0),)), len(self.table))

    def test_forms(self):
        knowledge, rank = self.table[0]
        good = (0, 1, 0, ".")
        for row in (None, (), (knowledge,), (knowledge, rank, rank), (knowledge, -1), (knowledge, True),
                    (knowledge, None), (knowledge, "1"), ((), 0), (knowledge[::-1], rank), (knowledge[:1] * 2, rank),
                    (knowledge[0], 0), (None, 0), ("", 0), (3, 0), (True, 0), ((None,), 0), (((-2, *good[1:]),), 9),
                    (((3, *good[1:]),), 9), (((True, *good[1:]),), 9), (((0, 2, 0, "."),), 9),
                    (((0, 0, -1, "."),), 9), (((0, 0, 0, ""),), 9), (((0, 0, 0, ".."),), 9), (((0, 0, 0, "c"),), 9),
                    (((0, 0, 0),), 9)):
            self.assertEqual(self.judge((row, *self.table)), 0, row)
            self.assertEqual(self.judge((row,)), -1, row)


if __name__ == "__main__":
    unittest.main()
