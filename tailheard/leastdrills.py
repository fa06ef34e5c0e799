"""Drills that are one to the eye, and the least ones of those."""

from tailheard.checks import in_bounds, is_tuple
from tailheard.drills import Drill
from tailheard.errors import Unlike
from tailheard.judges import judge_closed
from tailheard.makes import Make
from tailheard.rows import numbered
from tailheard.trees import whole_tree

MOST_STANDING_PAIRS = 36


class Eyes:
    """Two drills over the same words, seen side by side."""

    def __init__(self, first, second):
        if first.words != second.words:
            raise Unlike("words")
        self._signs = "." + first.words
        self._first = first.standings
        self._second = second.standings

    def onward(self, pair):
        """The pairs (sign, pair) of all signs behind a pair of standings."""
        return [(sign, (one, two)) for sign, one, two
                in zip(self._signs, self._first[pair[0]][2], self._second[pair[1]][2])]

    def is_same(self, pair):
        """Whether a pair of standings has the same stride and body."""
        return self._first[pair[0]][:2] == self._second[pair[1]][:2]

    def tree(self):
        """The tree of all pairs to which callings lead from rest."""
        return whole_tree((0, 0), lambda pair: self.onward(pair), MOST_STANDING_PAIRS, "pair")

    def has_form(self, thing):
        """Whether a thing has the form of a pair of standings, one of each drill."""
        if not is_tuple(thing, 2, 2) or not in_bounds(thing[0], 0, len(self._first) - 1):
            return False
        return in_bounds(thing[1], 0, len(self._second) - 1)

    def is_right(self, told, row):
        """Whether a pair of standings is right by itself."""
        return self.is_same(row) and all([onto in told for sign, onto in self.onward(row)])


class DrillPair:
    """Whether two drills are one to the eye: a table of pairs if they are, the least calling that tells if not."""

    def __init__(self, first, second):
        eyes = Eyes(first, second)
        tree = eyes.tree()
        self.calling = None
        self.table = tuple(tree.ordered())
        for pair in tree.ordered():
            if self.calling is None and not eyes.is_same(pair):
                self.calling = "".join(tree.signs_to(pair))
                self.table = None
        self._rows = self.table or ()

    def __bool__(self):
        return self.calling is None

    def __len__(self):
        return len(self._rows)

    def __iter__(self):
        return iter(self._rows)


def judge_drills(first, second, table):
    """What is wrong with a table of pairs of standings, None if it is closed."""
    eyes = Eyes(first, second)

    def has_form(row):
        return eyes.has_form(row)

    return judge_closed(table, [(0, 0)], has_form, lambda told, row: eyes.is_right(told, row))


def reached(drill):
    """The standings to which callings lead from rest, ordered by the least of them."""
    order = [0]
    at = 0
    while at < len(order):
        nexts = drill.standings[order[at]][2]
        for onto in nexts:
            if onto not in order:
                order.append(onto)
        at = at + 1
    return order


def least_drill(drill):
    """The drill with the fewest standings that is one to the eye with a drill."""
    order = reached(drill)
    rows = [drill.standings[standing] for standing in order]
    place = {standing: at for at, standing in enumerate(order)}
    blocks = numbered([row[:2] for row in rows])
    many = 0
    while many < max(blocks) + 1:
        many = max(blocks) + 1
        keys = [(blocks[at], tuple([blocks[place[onto]] for onto in row[2]])) for at, row in enumerate(rows)]
        blocks = numbered(keys)
    standings = []
    for at, (stride, body, nexts) in enumerate(rows):
        if blocks[at] == len(standings):
            standings.append((stride, body, [blocks[place[onto]] for onto in nexts]))
    return Drill(drill.words, standings)


def least_make(make):
    """The make with the least drill of each kind."""
    kinds = [(name, lag, least_drill(make[name]).standings) for name, lag, standings in make.kinds]
    return Make(make.words, kinds, make.space, make.seats)
