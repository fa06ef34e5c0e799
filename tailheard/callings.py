"""Callings of programs, and plans of all that they can call."""

from tailheard.checks import MOST_BEATS, in_bounds, is_integer
from tailheard.errors import BadDelay, BadValue, TooLong, Unknown
from tailheard.programs import MOST_AMOUNT
from tailheard.spots import plan_of_tree, spot_count

MOST_DELAY = 177


def check_values(program, values, most):
    """Raise BadValue or Unknown unless these are values of the variables of a program, up to the most if it is told."""
    for name in program.variables:
        worth = values.get(name)
        if not is_integer(worth) or worth < 0 or most is not None and worth > most:
            raise BadValue(name)
    for name in values:
        if name not in program.variables:
            raise Unknown(name)


def amount_of(row, values):
    """The number of times or beats of a statement."""
    if is_integer(row[1]):
        return row[1]
    return values[row[1]]


def sign_count(body, values, delay):
    """The number of the signs of a body, without writing it out."""
    many = 0
    for row in body:
        if row[0] == "say":
            many = many + 1
        elif row[0] == "answer":
            many = many + 2 * delay
        elif row[0] == "wait":
            many = many + amount_of(row, values)
        else:
            many = many + amount_of(row, values) * sign_count(row[2], values, delay)
    return many


def written(body, values, delay):
    """The signs of a body."""
    text = ""
    for row in body:
        if row[0] == "say":
            text = text + row[1]
        elif row[0] == "answer":
            text = text + "." * (2 * delay)
        elif row[0] == "wait":
            text = text + "." * amount_of(row, values)
        elif amount_of(row, values) > 0:
            # What is repeated no times can be far too long to be written out.
            text = text + written(row[2], values, delay) * amount_of(row, values)
    return text


def calling_of(program, values, delay=0):
    """The calling of a program for some values and a delay of the last group."""
    check_values(program, values, MOST_AMOUNT)
    if not in_bounds(delay, 0, MOST_DELAY):
        raise BadDelay(delay)
    many = sign_count(program.script, values, delay)
    if many > MOST_BEATS:
        raise TooLong(many)
    return written(program.script, values, delay)


def tree_of(row):
    """The tree of what a statement can call for all values and delays."""
    if row[0] == "say":
        return ("sign", row[1])
    passed = tree_of_body(row[2]) if row[0] == "repeat" else ("sign", ".")
    if row[0] == "answer" or isinstance(row[1], str):
        return ("star", passed)
    return ("times", passed, row[1])


def tree_of_body(body):
    """The tree of what a body can call."""
    trees = [tree_of(row) for row in body]
    # Trees without spots stand for the empty string alone; they are left out, however often they are repeated.
    return ("row", [tree for tree in trees if spot_count(tree) > 0])


def plan_of(program):
    """The least plan that bears what a program can call for all values and delays, each answer by itself."""
    return plan_of_tree(tree_of_body(program.script))
