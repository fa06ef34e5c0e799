"""Two plans: whether they bear the same strings, and the tables that show it."""

from tailheard.checks import frozen, in_bounds, is_tuple
from tailheard.rows import moves_of, side_by_side, text_to


class PlanPair:
    """Whether two plans are alike: a table of pairs if they are, the least string that parts them if not."""

    def __init__(self, first, second):
        order, rows, sources = side_by_side(first.states, second.states)
        self.table = tuple(order)
        self.text = None
        self.bearer = None
        for at, (one, two) in enumerate(order):
            if self.text is None and (one in first.ends) != (two in second.ends):
                self.table = None
                self.text = text_to(sources, at)
                self.bearer = 0 if one in first.ends else 1
        self._rows = self.table or ()

    def __bool__(self):
        return self.text is None

    def __len__(self):
        return len(self._rows)

    def __iter__(self):
        return iter(self._rows)


def is_pair(first, second, row):
    """Whether a row has the form of a pair of states, one of each plan."""
    if not is_tuple(row, 2, 2):
        return False
    return in_bounds(row[0], 0, len(first.states) - 1) and in_bounds(row[1], 0, len(second.states) - 1)


def judge_plans(first, second, table):
    """What is wrong with a table of pairs of states, None if it is closed."""
    rows = frozen(table)
    if not isinstance(rows, tuple):
        return -1
    pairs = {row: True for row in rows if is_pair(first, second, row)}
    if (0, 0) not in pairs:
        return -1
    moves = (moves_of(first.states), moves_of(second.states))
    for at, row in enumerate(rows):
        if not is_pair(first, second, row) or (row[0] in first.ends) != (row[1] in second.ends):
            return at
        here = moves[0][row[0]]
        there = moves[1][row[1]]
        if sorted(here) != sorted(there):
            return at
        if not all([(here[sign], there[sign]) in pairs for sign in here]):
            return at
    return None
