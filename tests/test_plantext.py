"""[8] plan texts, spots, lots."""

import re
import unittest

from helpers import all_texts, raised, seeded
from tailheard.errors import BadText, TooLong, TooMany
from tailheard.plans import Plan, least_plan
from tailheard.plantext import read_plan


def random_text(rng, depth=0):
    """A random plan text."""
    def item():
        deep = depth < 3 and rng.random() < 0.35
        return ("(" + random_text(rng, depth + 1) + ")" if deep else rng.choice(".ab")) + rng.choice(
            ["", "", "", "*", "+", "?", "2", "3"])
    return "|".join("".join(item() for _ in range(rng.randint(1, 3))) for _ in range(rng.choice([1, 1, 2])))


class Looker:
    """Which spots strings can be read to, found by reading in all ways."""

    def __init__(self, text):
        self.signs = []
        self.tree, _ = self.parse(text, 0)

    def parse(self, text, at):
        branches, row = [], []
        while at < len(text) and text[at] != ")":
            if text[at] == "|":
                branches.append(row)
                row = []
                at += 1
                continue
            start = at
            item, at = self.parse_item(text, start)
            if at < len(text) and text[at] in "*+?":
                item = (text[at], item)
                at += 1
            row.append(item)
            if at < len(text) and text[at].isdigit():
                row += [self.parse_item(text, start)[0] for _ in range(int(text[at]) - 1)]
                at += 1
        return [*branches, row], at

    def parse_item(self, text, at):
        if text[at] == "(":
            item, at = self.parse(text, at + 1)
        else:
            self.signs.append(text[at])
            item = len(self.signs) - 1
        return item, at + 1

    def ends(self, item, text, at, last, seen):
        """All pairs of an index and a last spot behind an item; all spots at the end of the text go to `seen`."""
        if isinstance(item, int):
            if at < len(text) and text[at] == self.signs[item]:
                if at + 1 == len(text):
                    seen.add(item)
                return {(at + 1, item)}
            return set()
        if isinstance(item, tuple):
            found = {(at, last)} if item[0] in "*?" else set()
            layer = {(at, last)}
            while layer:
                onward = set().union(*[self.ends(item[1], text, *pair, seen) for pair in layer])
                layer = onward - found if item[0] != "?" else set()
                found |= onward
            return found
        found = set()
        for row in item:
            layer = {(at, last)}
            for part in row:
                layer = set().union(*[self.ends(part, text, *pair, seen) for pair in layer]) if layer else set()
            found |= layer
        return found

    def lot(self, text):
        seen = set()
        self.ends(self.tree, text, 0, None, seen)
        return frozenset(seen)

    def lots(self):
        """All lots; the one of the empty string is None."""
        found = {None: ""}
        queue = [""]
        while queue:
            text = queue.pop(0)
            for sign in sorted(set(self.signs)):
                lot = self.lot(text + sign)
                if lot and lot not in found:
                    found[lot] = text + sign
                    queue.append(text + sign)
        return found


class BadTextTest(unittest.TestCase):
    def test_each_place(self):
        for text, at in (("", 0), ("|", 0), ("*", 0), ("2", 0), (")", 0), ("()", 1), ("(|a)", 1), ("(*)", 1),
                         ("a|", 2), ("a||b", 2), ("a|*", 2), ("a)", 1), ("(a", 2), ("(a))", 3), ("(a|", 3),
                         ("(a|)", 3), ("a**", 2), ("a*+", 2), ("a2?", 2), ("a22", 2), ("(a)?*", 4), ("a1", 1),
                         ("a0", 1), ("a b", 1), (" a", 0), ("a-", 1), ("a_", 1), ("a{2}", 1), ("((a)", 4), ("(", 1),
                         ("a|b)c", 3), ("ab(c|d*)2(", 10)):
            self.assertEqual(raised(BadText, read_plan, text).at, at, text)

    def test_no_string(self):
        for text in (None, 0, True, ["a"], ("a", "b"), b"a"):
            self.assertEqual(raised(BadText, read_plan, text).at, -1)

    def test_brackets(self):
        self.assertEqual(list(read_plan("((((((a))))))").strings(5)), ["a"])
        self.assertEqual(raised(BadText, read_plan, "(((((((a)))))))").at, 6)
        self.assertEqual(list(read_plan("((((((a))))))((((((b))))))").strings(5)), ["ab"])
        self.assertEqual(raised(BadText, read_plan, "((((((a)(").at, 9)
        self.assertEqual(raised(BadText, read_plan, "((((((a((").at, 7)


class SpotsTest(unittest.TestCase):
    def test_two_hundred(self):
        self.assertEqual(raised(TooLong, read_plan, "(a*)" * 201).number, 201)
        self.assertEqual(least_plan(read_plan("a*" * 200)), Plan([[("a", 0)]]))
        self.assertEqual(raised(TooLong, read_plan, "a*" * 201).number, 201)
        self.assertEqual(raised(TooLong, read_plan, "((a5)5)8|b").number, 201)
        self.assertEqual(raised(TooMany, read_plan, "((a5)5)8").word, "state")

    def test_however_great(self):
        self.assertEqual(raised(TooLong, read_plan, "((((((a9)9)9)9)9)9)9").number, 9 ** 7)
        self.assertEqual(raised(TooLong, read_plan, "((((((.9)9)9)9)9)9)9" * 90).number, 90 * 9 ** 7)
        self.assertEqual(raised(TooLong, read_plan, "((ab2)3|c)9(d|e)9" * 2).number, 2 * (90 + 18))

    def test_bad_text_goes_ahead(self):
        self.assertEqual(raised(BadText, read_plan, "((a9)9)9(").at, 9)

    def test_spots_of_the_example(self):
        self.assertEqual(list(read_plan("(ab2)3").strings(9)), ["abbabbabb"])
        self.assertEqual(raised(TooLong, read_plan, "((ab2)3)9" * 2 + "(ab2)3" * 5).number, 207)
        self.assertEqual(raised(TooMany, read_plan, "((ab2)3)9" * 2 + "(ab2)3" * 4 + ".2").word, "state")


class LotsTest(unittest.TestCase):
    def test_sixty(self):
        # Each beginning of a row of signs has a lot of its own, the empty one too.
        self.assertEqual(len(read_plan("(a9)6a5")), 60)
        self.assertEqual(raised(TooMany, read_plan, "(a9)6a6").word, "state")
        # The lots count, not the states of the least plan.
        self.assertEqual(read_plan("a*" * 59), Plan([[("a", 0)]]))
        self.assertEqual(read_plan("(a|b)*"), Plan([[("a", 0), ("b", 0)]]))
        self.assertEqual(raised(TooMany, read_plan, "(a|b)*a(a|b)5").word, "state")

    def test_against_a_plain_looker(self):
        rng = seeded(8)
        counts = []
        for _ in range(150):
            text = random_text(rng)
            looker = Looker(text)
            if len(looker.signs) > 40:
                continue
            lots = looker.lots()
            counts.append(len(lots))
            if len(lots) > 60:
                self.assertEqual(raised(TooMany, read_plan, text).word, "state", text)
            else:
                self.assertLessEqual(len(read_plan(text)), len(lots))
        self.assertGreater(len(counts), 100)

    def test_the_empty_string_has_a_lot_of_its_own(self):
        # 59 spots that are lots of their own, and the empty string, though what follows is the same: 60.
        ring = "((a9)6a5)*"
        self.assertEqual(len(read_plan(ring)), 59)
        self.assertEqual(raised(TooMany, read_plan, "((a9)6a6)*").word, "state")


class ReadTest(unittest.TestCase):
    def test_some(self):
        self.assertEqual(read_plan("a"), Plan([[("a", 1)], []], [1]))
        self.assertEqual(read_plan("a*"), Plan([[("a", 0)]]))
        self.assertEqual(read_plan("a+"), Plan([[("a", 1)], [("a", 1)]], [1]))
        self.assertEqual(read_plan("a?"), Plan([[("a", 1)], []]))
        self.assertEqual(list(read_plan("(a?b)2|.").strings(9)), [".", "bb", "abb", "bab", "abab"])
        self.assertEqual(list(read_plan("(a|b)?c9").strings(10)), ["c" * 9, "a" + "c" * 9, "b" + "c" * 9])
        self.assertEqual(list(read_plan("Zz.").strings(9)), ["Zz."])
        self.assertEqual(list(read_plan("ab|c").strings(9)), ["c", "ab"])
        self.assertEqual(list(read_plan("ab2").strings(9)), ["abb"])

    def test_against_regular_expressions(self):
        rng = seeded(9)
        texts = list(all_texts(".ab", 6))
        count = 0
        for _ in range(250):
            text = random_text(rng)
            rule = re.compile(re.sub(r"([2-9])", r"{\1}", text.replace(".", r"\.")))
            try:
                plan = read_plan(text)
            except (TooMany, TooLong):
                continue
            count += 1
            self.assertEqual(list(plan.strings(6)), [each for each in texts if rule.fullmatch(each)], text)
            self.assertEqual(least_plan(plan), plan)
        self.assertGreater(count, 200)


if __name__ == "__main__":
    unittest.main()
