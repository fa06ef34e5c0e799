"""[29] programs, their statements, their errors in order, their variables."""

import unittest

from helpers import raised
from tailheard.errors import BadStatement, BadWords, TooLong, TooMany, Twice
from tailheard.programs import Program

WHOLE = (("say", "a"), ("repeat", "times", (("wait", 2), ("repeat", 0, (("answer",), ("wait", "x"))), ("say", "b"))),
         ("wait", "x" * 8))


def nested(many):
    """A script with so many repeats within one another."""
    body = ()
    for _ in range(many):
        body = (("repeat", 2, body),)
    return body


class ProgramTest(unittest.TestCase):
    def test_statements(self):
        program = Program("ab", WHOLE)
        self.assertEqual((program.words, program.script, len(program)), ("ab", WHOLE, 8))
        found = list(program.statements())
        self.assertEqual(found, [WHOLE[0], WHOLE[1], ("wait", 2), WHOLE[1][2][1], ("answer",), ("wait", "x"),
                                 ("say", "b"), WHOLE[2]])
        self.assertEqual(program.variables, ("times", "x", "xxxxxxxx"))

    def test_empty(self):
        program = Program("a", ())
        self.assertEqual((len(program), list(program.statements()), program.variables), (0, [], ()))

    def test_one_by_one(self):
        told = Program("ab", WHOLE).statements()
        self.assertEqual(next(told), ("say", "a"))
        self.assertEqual(next(told), WHOLE[1])
        both = Program("ab", WHOLE)
        self.assertEqual(list(zip(both.statements(), both.statements()))[2], (("wait", 2), ("wait", 2)))

    def test_lists(self):
        body = [["wait", 2]]
        script = [["repeat", 3, body], ("say", "a")]
        program = Program("a", script)
        body.append(["say", "b"])
        script.append(None)
        self.assertEqual(program.script, (("repeat", 3, (("wait", 2),)), ("say", "a")))
        self.assertTrue(program == Program("a", (("repeat", 3, (("wait", 2),)), ("say", "a"))))

    def test_equality(self):
        self.assertTrue(Program("ab", WHOLE) == Program("ab", list(WHOLE)))
        for other in (Program("abc", WHOLE), Program("ab", WHOLE[:2]), WHOLE, None, "ab"):
            self.assertIs(Program("ab", WHOLE) == other, False)

    def test_words(self):
        for words in ("", "ba", "aa", "abcde", "A", ".", None, True, ("a",)):
            self.assertIs(raised(BadWords, Program, words, None).words, words)

    def test_amounts(self):
        for amount in (0, 99, "a", "zzzzzzzz", "say", "repeat"):
            self.assertEqual(len(Program("a", [("wait", amount)])), 1)
            self.assertEqual(len(Program("a", [("repeat", amount, [])])), 1)
        for amount in (-1, 100, True, False, None, "", "a" * 9, "A", "a1", "a b", ".", "x.", (), ("a",), ["a"], 1.0,
                       {}):
            self.assertEqual(raised(BadStatement, Program, "a", [("wait", amount)]).number, 0)
            self.assertEqual(raised(BadStatement, Program, "a", [("answer",), ("repeat", amount, [])]).number, 1)

    def test_forms(self):
        for row in (None, 0, "say", "answer", (), ("say",), ("say", "c"), ("say", "."), ("say", "ab"), ("say", ""),
                    ("say", "a", "b"), ("say", None), ("say", True), ("wait",), ("wait", 1, 2), ("repeat", 2),
                    ("repeat", 2, None), ("repeat", 2, "ab"), ("repeat", 2, (), ()), ("repeat", 2, {}), ("answer", 1),
                    ("Answer",), ("end",), (1,), (None, 2), ("say", "A"), ("wait", (1,)), ("repeat", "x"), {}, ("", ),
                    (("answer",),), ("answer", None), True, ("say", ["a"]), ({}, 1), ({},), ("say", {}),
                    ("call", "a"), ("pause", 3), ("until", 3, ()), ("say", 3, ()), ("repeat", "a"), ("wait", "a", ()),
                    ("answer", "a"), (None, "a"), (1, 1), (None, 3, ())):
            self.assertEqual(raised(BadStatement, Program, "ab", [row]).number, 0, row)
            self.assertEqual(raised(BadStatement, Program, "ab", [("wait", 1), row, None]).number, 1, row)
            self.assertEqual(raised(BadStatement, Program, "ab", [("repeat", 2, [("wait", 1), row]), None]).number, 2)
        for script in (None, 0, "", "ab", True, {}):
            self.assertEqual(raised(BadStatement, Program, "ab", script).number, -1)

    def test_numbers_of_statements(self):
        # A body is looked at behind its statement, ahead of the next one.
        script = [("repeat", 2, [("repeat", 3, [("wait", 1)]), ("wait", 1)]), ("say", "a"), ("say", "c")]
        self.assertEqual(raised(BadStatement, Program, "ab", script).number, 5)

    def test_bodies(self):
        self.assertEqual(len(Program("a", nested(5))), 5)
        self.assertEqual(raised(BadStatement, Program, "a", nested(6)).number, 5)
        deep = (("repeat", 1, (("repeat", 1, (("repeat", 1, (("repeat", 1, (("answer",),)),)),)),)), ("say", "a"))
        self.assertEqual(len(Program("a", deep)), 6)
        deeper = (("say", "a"), ("repeat", 1, deep[:1]), ("say", "c"))
        self.assertEqual(raised(BadStatement, Program, "a", deeper).number, 6)
        # An earlier statement without the form goes first, a later one does not.
        self.assertEqual(raised(BadStatement, Program, "a", (("say", "c"), *deeper)).number, 0)

    def test_thirty_statements(self):
        self.assertEqual(len(Program("a", [("answer",)] * 30)), 30)
        self.assertEqual(raised(TooLong, Program, "a", [("answer",)] * 31).number, 31)
        self.assertEqual(raised(TooLong, Program, "a", [("repeat", 2, [("wait", 1)] * 15)] * 3).number, 48)
        # A statement without the form goes first, wherever it stands; then the number; then the variables.
        self.assertEqual(raised(BadStatement, Program, "a", [("answer",)] * 40 + [None]).number, 40)
        self.assertEqual(raised(TooLong, Program, "a", [("wait", "x")] * 31).number, 31)

    def test_one_variable_twice(self):
        self.assertEqual(raised(Twice, Program, "a", [("wait", "x"), ("wait", "y"), ("wait", "y"),
                                                      ("wait", "x")]).name, "y")
        self.assertEqual(raised(Twice, Program, "a", [("repeat", "x", [("wait", "x")])]).name, "x")
        self.assertEqual(raised(Twice, Program, "a", [("wait", name) for name in "abcda"]).name, "a")
        # A word and a variable of one name are two things.
        self.assertEqual(Program("a", [("say", "a"), ("wait", "a")]).variables, ("a",))

    def test_three_variables(self):
        self.assertEqual(Program("a", [("repeat", "c", [("wait", "b")]), ("wait", "a")]).variables, ("c", "b", "a"))
        self.assertEqual(raised(TooMany, Program, "a", [("wait", name) for name in "abcd"]).word, "variable")


if __name__ == "__main__":
    unittest.main()
