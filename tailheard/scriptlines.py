"""Scripts of programs written as lines, and read from them."""

from tailheard.checks import SMALL
from tailheard.errors import BadLine
from tailheard.linewords import LineWords
from tailheard.programs import MOST_AMOUNT, Program

FIRST_WORDS = ("say", "wait", "repeat", "answer")


def lines_of(body):
    """The lines of a body."""
    lines = []
    for row in body:
        if row[0] == "repeat":
            lines = [*lines, f"repeat {row[1]}", *lines_of(row[2]), "end"]
        else:
            lines.append(" ".join([str(word) for word in row]))
    return lines


def write_script(program):
    """The lines of the script of a program."""
    return tuple(lines_of(program.script))


class ScriptReader:
    """A script as far as its lines have been read."""

    def __init__(self):
        self.bodies = [[]]
        self.amounts = []

    def is_open(self):
        """Whether a body has begun that has not ended."""
        return len(self.amounts) > 0

    def read(self, line):
        """Take up one line."""
        word = line.take([*FIRST_WORDS, "end"] if self.is_open() else FIRST_WORDS)
        if word == "say":
            self.bodies[-1].append(("say", line.take(list(SMALL))))
        elif word == "wait":
            self.bodies[-1].append(("wait", line.take_amount(MOST_AMOUNT)))
        elif word == "answer":
            self.bodies[-1].append(("answer",))
        elif word == "repeat":
            self.amounts.append(line.take_amount(MOST_AMOUNT))
            self.bodies.append([])
        else:
            body = self.bodies.pop()
            self.bodies[-1].append(("repeat", self.amounts.pop(), body))
        line.finish()


def read_script(words, lines):
    """The program over some words whose script lines tell."""
    reader = ScriptReader()
    for number in range(len(lines)):
        reader.read(LineWords(lines, number))
    if reader.is_open():
        raise BadLine(len(lines), 0)
    return Program(words, reader.bodies[0])
