"""Effects: whether two programs lead a group to the same standing with the same walk, for all values."""

from math import lcm

from tailheard.allvalues import check_no_answer
from tailheard.errors import Nested, TooMany, Unlike
from tailheard.maps import product_of, tail_and_period, tuples_below
from tailheard.scores import Score, heads_of, parts_of

MOST_MARKS = 500


class Walks:
    """What signs make of the standings of a drill: for each one where it is led, and with which walk.

    Attribute: what no sign makes of them.
    """

    def __init__(self, drill):
        self.unit = [(standing, 0) for standing in range(len(drill))]
        self._drill = drill

    def of_sign(self, sign):
        """What a sign makes of all standings."""
        return [(self._drill(at, sign), self._drill.walk(at, sign)) for at in range(len(self._drill))]

    def joined(self, one, two):
        """What is made of all standings by one thing and then another one."""
        return [(two[at][0], walk + two[at][1]) for at, walk in one]


def check_programs(make, first, second):
    """Raise the errors of two programs that are to have one effect."""
    for program in (first, second):
        if program.words != make.words:
            raise Unlike("words")
    if sorted(first.variables) != sorted(second.variables):
        raise Unlike("variables")
    for program in (first, second):
        check_no_answer(program)
    for program in (first, second):
        check_not_nested(program)


def check_not_nested(program):
    """Raise Nested for the first variable of a program that has another one in what it repeats."""
    nested = {head.amount: len(head.names) > 1 for head in heads_of(parts_of(program.script))}
    for name in program.variables:
        if nested[name]:
            raise Nested(name)


def marks_of(scores):
    """For each variable of some scores the number of its marks."""
    rounds = {}
    for score in scores:
        for head in heads_of(score.parts):
            led = [standing for standing, walk in score.of_pass(head, {})]
            tail, further = tail_and_period(led)
            lag, period = rounds.get(head.amount, (0, 1))
            rounds[head.amount] = (max(lag, tail), lcm(period, further))
    return {name: lag + 2 * period for name, (lag, period) in rounds.items()}


class Effects:
    """Whether two programs have one effect on a kind: a table of effects if they have, the least values if not."""

    def __init__(self, make, name, first, second):
        drill = make[name]
        check_programs(make, first, second)
        scores = [Score(Walks(drill), program.script) for program in (first, second)]
        marks = marks_of(scores)
        limits = [marks[variable] for variable in first.variables]
        if product_of(limits) > MOST_MARKS:
            raise TooMany("value")
        rows = []
        partings = []
        for row in tuples_below(limits):
            values = dict(zip(first.variables, row))
            one, two = [score.whole(values)[drill.REST] for score in scores]
            rows.append((row, *one))
            if one != two:
                partings.append((sum(row), row, (one, two)))
        least = min(partings) if partings else (0, None, None)
        self.least_values = least[1]
        self.effects = least[2]
        self.table = None if partings else tuple(rows)
        self._rows = self.table or ()

    def __bool__(self):
        return self.least_values is None

    def __len__(self):
        return len(self._rows)

    def __iter__(self):
        return iter(self._rows)
