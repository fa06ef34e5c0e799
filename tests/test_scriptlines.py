"""[52] the lines of a script, and `BadLine`."""

import unittest

from helpers import raised, seeded
from tailheard.errors import BadLine, BadStatement, BadWords, TooLong, TooMany, Twice
from tailheard.programs import Program
from tailheard.scriptlines import read_script, write_script

SCRIPT = (("say", "a"), ("repeat", 12, (("wait", "x"), ("repeat", "again", ()), ("answer",))), ("wait", 0))
LINES = ("say a", "repeat 12", "wait x", "repeat again", "end", "answer", "end", "wait 0")


def random_body(rng, depth, left):
    """A random body of at most so many statements."""
    rows = []
    while left[0] > 0 and rng.random() < 0.7:
        left[0] -= 1
        kind = rng.choice(["say", "wait", "repeat", "answer"])
        if kind == "say":
            rows.append(("say", rng.choice("ab")))
        elif kind == "wait":
            rows.append(("wait", rng.randint(0, 99)))
        elif kind == "repeat" and depth < 4:
            rows.append(("repeat", rng.randint(0, 99), random_body(rng, depth + 1, left)))
        else:
            rows.append(("answer",))
    return tuple(rows)


class LinesTest(unittest.TestCase):
    def bad(self, lines, words="ab"):
        error = raised(BadLine, read_script, words, lines)
        return (error.line, error.word)

    def test_there_and_back(self):
        program = Program("ab", SCRIPT)
        self.assertEqual(write_script(program), LINES)
        self.assertTrue(read_script("ab", LINES) == program)
        self.assertTrue(read_script("ab", list(LINES)) == program)
        self.assertEqual(write_script(Program("ab", ())), ())
        self.assertEqual(read_script("ab", ()).script, ())
        self.assertEqual(read_script("ab", []).script, ())

    def test_random_scripts(self):
        rng = seeded(220)
        for _ in range(100):
            program = Program("ab", random_body(rng, 0, [12]))
            self.assertTrue(read_script("ab", write_script(program)) == program)

    def test_words_of_the_language_as_names(self):
        for name in ("say", "wait", "repeat", "answer", "end"):
            script = (("wait", name), ("repeat", name[::-1], ()))
            self.assertEqual(read_script("a", write_script(Program("a", script))).script, script)

    def test_first_words(self):
        for word in ("", "Say", "make", "state", "says", "1", "."):
            self.assertEqual(self.bad((word,)), (0, 0))
            self.assertEqual(self.bad(("say a", word + " a", "say")), (1, 0))
        self.assertEqual(self.bad(("end",)), (0, 0))
        self.assertEqual(self.bad(("repeat 1", "end", "end")), (2, 0))
        self.assertEqual(self.bad(("say a", "repeat 1", "repeat 2", "end", "end", "say b", "end", "x")), (6, 0))

    def test_lines_that_end_too_early(self):
        self.assertEqual(self.bad(("repeat 1",)), (1, 0))
        self.assertEqual(self.bad(("say a", "repeat 1", "repeat 2", "end")), (4, 0))

    def test_words_that_lack(self):
        for line in ("say", "wait", "repeat"):
            self.assertEqual(self.bad((line,)), (0, 1))
        for line in ("say a b", "wait 1 2", "repeat 1 end", "say a ", "wait x "):
            self.assertEqual(self.bad((line, "end")), (0, 2))
        self.assertEqual(self.bad(("answer 1",)), (0, 1))
        self.assertEqual(self.bad(("answer ",)), (0, 1))
        self.assertEqual(self.bad(("repeat 1", "end 1")), (1, 1))

    def test_blanks(self):
        for line in ("", " ", " say a", " answer", "  "):
            self.assertEqual(self.bad(("answer", line)), (1, 0))
        self.assertEqual(self.bad(("say  a",)), (0, 1))
        self.assertEqual(self.bad(("wait  1",)), (0, 1))

    def test_things_that_are_no_strings(self):
        for line in (None, 0, True, ("say", "a"), ["answer"], {}):
            self.assertEqual(self.bad(("answer", line)), (1, 0))

    def test_amounts(self):
        for word in ("100", "-1", "01", "00", "+1", "1.0", "x1", "X", "abcdefghi", "", ".", "1_0", "-0", "a-b"):
            self.assertEqual(self.bad((f"wait {word}",)), (0, 1), word)
            self.assertEqual(self.bad((f"repeat {word}", "end")), (0, 1), word)
        lines = ("wait 99", "wait 0", "wait abcdefgh", "repeat 10", "end", "repeat z", "end")
        self.assertEqual(len(read_script("a", lines)), 5)

    def test_said_words(self):
        for word in ("A", "ab", ".", "1", ""):
            self.assertEqual(self.bad((f"say {word}",)), (0, 1))
        # A small letter can stand there; the program judges whether it has this word.
        self.assertEqual(raised(BadStatement, read_script, "ab", ("answer", "say c")).number, 1)
        self.assertEqual(self.bad(("say c", "end")), (1, 0))

    def test_errors_of_programs(self):
        self.assertEqual(raised(BadWords, read_script, "ba", LINES).words, "ba")
        self.assertEqual(self.bad(("end",), None), (0, 0))
        self.assertEqual(raised(TooLong, read_script, "a", ("answer",) * 31).number, 31)
        self.assertEqual(raised(Twice, read_script, "a", ("wait x", "wait x")).name, "x")
        self.assertEqual(raised(TooMany, read_script, "a", ("wait x", "wait y", "wait z", "wait w")).word, "variable")

    def test_twenty_repeats(self):
        lines = ("repeat 1",) * 20 + ("end",) * 20
        self.assertEqual(raised(BadStatement, read_script, "a", lines).number, 5)
        self.assertEqual(self.bad(lines[:-1]), (39, 0))
        self.assertEqual(self.bad(lines + ("end",)), (40, 0))
        self.assertEqual(len(read_script("a", lines[15:25])), 5)
        many = ("answer",) * 300
        self.assertEqual(raised(TooLong, read_script, "a", many).number, 300)


if __name__ == "__main__":
    unittest.main()
