"""The error classes: directly under TailError, with what they bear in attributes."""

import copy
import unittest

from tailheard import errors

TOLD = """BadWords(words) BadStanding(number) BadKind(number) BadSpace(space) BadSeat(number) BadColumn(number)
BadCalling(number) BadBeats(beats) BadWish(wish) BadPlan(number) BadSign(sign) BadText(at) BadLine(line,word)
BadLeast(least) BadWait(wait) BadGoal(number) BadFile(word) BadNumber(number) BadStatement(number) BadValue(name)
BadDelay(delay) BadPlaces(places) BadWay(number) BadRule(number) BadNames(names) BadTable(number) BadDelays(delays)
BadFirst(first) BadStream(number) BadChain(number) BadMost(most) BadBands(bands) BadSlow(slow) BadCycle(cycle)
BadEar(ear) BadRelay(relay) BadWithin(within) BadLooks(number) BadSeen(word) BadSight(number) BadSample(number)
BadName(name) TooMany(word) TooLong(number) Twice(name) Unknown(name) Unlike(word) Empty() NoStanding(standing)
NoBetween(between) NoLength(length) NoNode(node) NoSeat(ahead,behind) NotSteady(name) HasAnswer(number)
HasVariable(name) Nested(name) Torn(line)""".split()


class ErrorsTest(unittest.TestCase):
    def test_base(self):
        self.assertIs(errors.TailError.__bases__[0], ValueError)

    def test_each_class(self):
        for each in TOLD:
            name, rest = each.rstrip(")").split("(")
            words = [word for word in rest.split(",") if word]
            kind = getattr(errors, name)
            self.assertEqual(kind.__bases__, (errors.TailError,), name)
            self.assertEqual(kind.__module__, "tailheard.errors")
            things = [["x", at] for at in range(len(words))]
            error = kind(*things)
            for word, thing in zip(words, things):
                self.assertIs(getattr(error, word), thing, name)
            again = kind(**dict(zip(words, things)))
            self.assertEqual([getattr(again, word) for word in words], things)
            self.assertIsInstance(str(error), str)
            self.assertEqual(copy.copy(error).__dict__, error.__dict__)

    def test_no_other_classes(self):
        own = [name for name, thing in vars(errors).items() if isinstance(thing, type)]
        self.assertEqual(sorted(own), sorted([each.split("(")[0] for each in TOLD] + ["TailError"]))


if __name__ == "__main__":
    unittest.main()
