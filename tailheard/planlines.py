"""Plans written as lines, and read from them."""

from tailheard.checks import SIGNS
from tailheard.linewords import read_all
from tailheard.plans import Plan
from tailheard.rows import MOST_STATES


def write_plan(plan):
    """The lines of a plan."""
    return tuple([" ".join(["state", *[f"{sign} {onto}" for sign, onto in row]]) for row in plan.states])


def read_state(line):
    """The state that a line tells behind its first word."""
    row = []
    signs = list(SIGNS)
    while not line.is_over():
        sign = line.take(signs)
        row.append((sign, line.take_integer(0, MOST_STATES - 1)))
        signs = [other for other in signs if other > sign]
    return row


class PlanReader:
    """A plan as far as its lines have been read."""

    def __init__(self, ends):
        self._ends = ends
        self._states = []

    def is_open(self):
        """Whether an `end` would end something in it."""
        return False

    def read(self, line):
        """Take up one line."""
        line.take(["state"])
        self._states.append(read_state(line))

    def made(self):
        """The plan that the lines tell."""
        return Plan(self._states, self._ends)


def read_plan_lines(ends, lines):
    """The plan with these ends that lines tell."""
    return read_all(PlanReader(ends), lines)
