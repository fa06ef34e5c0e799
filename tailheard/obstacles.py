"""Obstacles: a stream parts before them and is joined behind them."""

from tailheard.checks import CAPITALS, MOST_BEATS, frozen, in_bounds, is_rising, is_text, is_tuple, misplaced
from tailheard.errors import BadDelays, BadFirst, BadNames, BadStream, BadTable

MOST_NAMES = 4
MOST_ROWS = 4
MOST_DELAY = 4


def check_names(names):
    """Raise BadNames unless these are the names of an obstacle."""
    if not is_text(names, CAPITALS, 1, MOST_NAMES) or not is_rising(names):
        raise BadNames(names)


def is_row(thing, many, rows):
    """Whether a thing has the form of a row of a table for so many names, where there are so many rows."""
    if not is_tuple(thing, many, many) or not all([is_tuple(pair, 2, 2) for pair in thing]):
        return False
    return all([in_bounds(pair[0], 0, 1) and in_bounds(pair[1], 0, rows - 1) for pair in thing])


def check_table(names, rows):
    """Raise BadTable unless this is a table for some names."""
    if not is_tuple(rows, 1, MOST_ROWS):
        raise BadTable(-1)
    for at, row in enumerate(rows):
        if not is_row(row, len(names), len(rows)):
            raise BadTable(at)


def check_stream(names, stream):
    """Raise BadStream unless this is a stream of some names."""
    wrong = misplaced(stream, "." + names, 0, MOST_BEATS)
    if wrong is not None:
        raise BadStream(wrong)


class Obstacle:
    """Names, a table, delays and a first branch."""

    def __init__(self, names, table, delays, first=0):
        check_names(names)
        rows = frozen(table)
        check_table(names, rows)
        pair = frozen(delays)
        if not is_tuple(pair, 2, 2) or not all([in_bounds(delay, 1, MOST_DELAY) for delay in pair]):
            raise BadDelays(delays)
        if not in_bounds(first, 0, 1):
            raise BadFirst(first)
        self.names = names
        self.table = rows
        self.delays = pair
        self.first = first

    def __eq__(self, other):
        if not isinstance(other, Obstacle) or self.names != other.names or self.table != other.table:
            return False
        return self.delays == other.delays and self.first == other.first

    @property
    def beginning(self):
        """The inside at first."""
        return (0, "." * self.delays[0], "." * self.delays[1], "")

    @staticmethod
    def plain(names, part, delays, first=0):
        """The obstacle at which the groups of a part go into branch 1, the others into branch 0."""
        check_names(names)
        if not is_text(part, names, 0, len(names)) or not is_rising(part):
            raise BadNames(part)
        return Obstacle(names, [[(1 if name in part else 0, 0) for name in names]], delays, first)

    def beat(self, inside, sign):
        """The inside behind a beat at which a sign comes in, and the sign that goes out."""
        row, zero, one, waiting = frozen(inside)
        row, onto_zero, onto_one = self.parted(row, sign)
        arrived = zero[0] + one[0] if self.first == 0 else one[0] + zero[0]
        queue = waiting + arrived.replace(".", "")
        return (row, zero[1:] + onto_zero, one[1:] + onto_one, queue[1:]), queue[:1] or "."

    def parted(self, row, sign):
        """The row behind a sign that comes, and the signs that go into branch 0 and into branch 1."""
        if sign == ".":
            return row, ".", "."
        branch, onto = self.table[row][self.names.index(sign)]
        if branch == 0:
            return onto, sign, "."
        return onto, ".", sign

    def __call__(self, stream):
        check_stream(self.names, stream)
        inside = self.beginning
        passed = []
        for sign in stream:
            inside, out = self.beat(inside, sign)
            passed.append(out)
        return "".join(passed)


def has_branches(obstacle, thing):
    """Whether a thing begins like an inside: with a row, and strings for both branches."""
    if not in_bounds(thing[0], 0, len(obstacle.table) - 1):
        return False
    signs = "." + obstacle.names
    return all([is_text(thing[at + 1], signs, delay, delay) for at, delay in enumerate(obstacle.delays)])


def is_inside(obstacle, thing):
    """Whether a thing has the form of an inside of an obstacle."""
    if not is_tuple(thing, 4, 4) or not has_branches(obstacle, thing) or not isinstance(thing[3], str):
        return False
    return all([name in obstacle.names for name in thing[3]])
