"""Plans written as lines, and read from them."""

from tailheard.checks import SIGNS
from tailheard.linewords import LineWords
from tailheard.plans import Plan
from tailheard.rows import MOST_STATES


def write_plan(plan):
    """The lines of a plan."""
    return tuple([" ".join(["state", *[f"{sign} {onto}" for sign, onto in row]]) for row in plan.states])


def read_state(line):
    """The state that a line tells behind its first word."""
    row = []
    signs = list(SIGNS)
    while not line.is_over():
        sign = line.take(signs)
        row.append((sign, line.take_integer(0, MOST_STATES - 1)))
        signs = [other for other in signs if other > sign]
    return row


def read_plan_lines(ends, lines):
    """The plan with these ends that lines tell."""
    states = []
    for number in range(len(lines)):
        line = LineWords(lines, number)
        line.take(["state"])
        states.append(read_state(line))
    return Plan(states, ends)
