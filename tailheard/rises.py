"""Rises: how far a group can come in so many beats, however many."""

from tailheard.checks import frozen, is_integer, is_tuple, key_of
from tailheard.errors import BadBeats, NoNode, TooMany
from tailheard.nodes import Nodes

MOST_TOLD = 60


def turned(worth, falls):
    """A number as it is, or with its sign turned: falls are told as the rises of what is turned."""
    return -worth if falls else worth


def layers_of(moves, most):
    """For each number of beats up to the most, the rises of all nodes; moves are pairs (stride, number of a node)."""
    layers = [[0] * len(moves)]
    for _ in range(most):
        last = layers[-1]
        layers.append([max([stride + last[onto] for stride, onto in row]) for row in moves])
    return layers


def are_gains(moves, gains):
    """Whether no step leads to a node with a greater gain."""
    return all([gains[onto] <= gains[at] for at, row in enumerate(moves) for stride, onto in row])


def lag_and_period(moves, layers):
    """The least period, the least lag for it, and the gains; TooMany if lag and period are more than 60 together.

    If the gains are the same from a beat on for a period and one beat more, and no step leads to a greater one, they
    are the same for ever.
    """
    for period in range(1, MOST_TOLD + 1):
        gains = None
        alike = 0
        for beat in range(MOST_TOLD + 1):
            further = [late - early for early, late in zip(layers[beat], layers[beat + period])]
            alike = alike + 1 if further == gains else 1
            gains = further
            if alike > period and are_gains(moves, gains):
                return beat - period, period, gains
    raise TooMany("beat")


class Rises:
    """The rises, or the falls, of all nodes of a kind."""

    def __init__(self, make, name, calls, *, falls=False):
        nodes = Nodes(make, name, calls)
        order = nodes.ordered()
        number = {node: at for at, node in enumerate(order)}
        moves = [[(turned(stride, falls), number[onto]) for sign, stride, onto in nodes.moves(node)] for node in order]
        layers = layers_of(moves, 2 * MOST_TOLD)
        lag, period, gains = lag_and_period(moves, layers)
        rows = []
        for at, node in enumerate(order):
            rises = [turned(layer[at], falls) for layer in layers[:lag + 2 * period + 1]]
            rows.append((*node, turned(gains[at], falls), tuple(rises)))
        self.lag = lag
        self.period = period
        self.table = tuple(rows)
        self._row_of = {row[:2]: row for row in rows}

    def __len__(self):
        return len(self.table)

    def __iter__(self):
        return iter(self.table)

    def rise(self, node, beats):
        """The rise (or fall) of a node for a number of beats."""
        row = self.row_of(node)
        if not is_integer(beats) or beats < 0:
            raise BadBeats(beats)
        if beats < self.lag:
            return row[3][beats]
        whole, rest = divmod(beats - self.lag, self.period)
        return row[3][self.lag + rest] + whole * row[2]

    def gain(self, node):
        """What the rise (or fall) of a node grows by in one period."""
        return self.row_of(node)[2]

    def row_of(self, node):
        """The row of a node."""
        key = key_of(node)
        if key not in self._row_of:
            raise NoNode(node)
        return self._row_of[key]


class RisesJudge:
    """What a table of rises, or falls, is judged by."""

    def __init__(self, nodes, lag, period, falls):
        self.nodes = nodes
        self.lag = lag
        self.period = period
        self.falls = falls
        self.known = {}

    def has_form(self, row):
        """Whether a row has the form of a node with a gain and its rises."""
        if not is_tuple(row, 4, 4) or not self.nodes.has_form(row[:2]) or not is_integer(row[2]):
            return False
        many = self.lag + 2 * self.period + 1
        return is_tuple(row[3], many, many) and all([is_integer(rise) for rise in row[3]])

    def turned_row(self, row):
        """The gain and the rises of a row, those of falls turned."""
        return turned(row[2], self.falls), [turned(rise, self.falls) for rise in row[3]]

    def take_up(self, rows):
        """Take up what the first row with the form told tells of each node."""
        for row in rows:
            if self.has_form(row) and row[:2] not in self.known:
                self.known[row[:2]] = self.turned_row(row)

    def is_right(self, row):
        """Whether a row with the form told is right by itself."""
        gain, rises = self.turned_row(row)
        moves = [(turned(stride, self.falls), onto) for sign, stride, onto in self.nodes.moves(row[:2])]
        if rises[0] != 0 or not all([onto in self.known and self.known[onto][0] <= gain for stride, onto in moves]):
            return False
        behind = [(stride, self.known[onto][1]) for stride, onto in moves]
        for beat in range(1, len(rises)):
            if rises[beat] != max([stride + further[beat - 1] for stride, further in behind]):
                return False
        window = range(self.lag, self.lag + self.period + 1)
        return all([rises[beat + self.period] == rises[beat] + gain for beat in window])


def judge_rises(make, name, calls, lag, period, table, *, falls=False):
    """What is wrong with a table of rises (or falls), None if it is right."""
    nodes = Nodes(make, name, calls)
    rows = frozen(table)
    if not isinstance(rows, tuple):
        return -1
    judge = RisesJudge(nodes, lag, period, falls)
    judge.take_up(rows)
    if nodes.origin not in judge.known:
        return -1
    for at, row in enumerate(rows):
        if not judge.has_form(row) or not judge.is_right(row):
            return at
    return None
