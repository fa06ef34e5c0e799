"""Scripts of programs written as lines, and read from them."""

from tailheard.checks import SMALL
from tailheard.linewords import read_all
from tailheard.programs import MOST_AMOUNT, Program

FIRST_WORDS = ("say", "wait", "repeat", "answer")


def lines_of(body):
    """The lines of a body."""
    lines = []
    for row in body:
        if row[0] == "repeat":
            lines = [*lines, f"repeat {row[1]}", *lines_of(row[2]), "end"]
        else:
            lines.append(" ".join([str(word) for word in row]))
    return lines


def write_script(program):
    """The lines of the script of a program."""
    return tuple(lines_of(program.script))


class ScriptReader:
    """A program as far as its lines have been read."""

    def __init__(self, words):
        self._words = words
        self._bodies = [[]]
        self._amounts = []

    def is_open(self):
        """Whether an `end` would end something in it: a body that has begun."""
        return len(self._amounts) > 0

    def read(self, line):
        """Take up one line."""
        word = line.take([*FIRST_WORDS, "end"] if self.is_open() else FIRST_WORDS)
        if word == "say":
            self._bodies[-1].append(("say", line.take(list(SMALL))))
        elif word == "wait":
            self._bodies[-1].append(("wait", line.take_amount(MOST_AMOUNT)))
        elif word == "answer":
            self._bodies[-1].append(("answer",))
        elif word == "repeat":
            self._amounts.append(line.take_amount(MOST_AMOUNT))
            self._bodies.append([])
        else:
            body = self._bodies.pop()
            self._bodies[-1].append(("repeat", self._amounts.pop(), body))
        line.finish()

    def made(self):
        """The program that the lines tell."""
        return Program(self._words, self._bodies[0])


def read_script(words, lines):
    """The program over some words whose script lines tell."""
    return read_all(ScriptReader(words), lines)
