"""Out plans: what can come out of a chain."""

from tailheard.passings import Passing
from tailheard.plans import Plan
from tailheard.rows import least_rows, rows_of_lots

MOST_LOTS = 100


class Points:
    """Tuples of a hearing state and the insides, by their numbers, as far as they have been found."""

    def __init__(self, passing):
        self._passing = passing
        self._found = [(0, passing.insides)]
        self._number = {self._found[0]: 0}
        self._moves = {}

    def number_of(self, point):
        """The number of a point, a new one if it is met for the first time."""
        if point not in self._number:
            self._number[point] = len(self._found)
            self._found.append(point)
        return self._number[point]

    def moves(self, number):
        """The pairs (sign that comes out, number of a point) of the steps of a point."""
        if number not in self._moves:
            found = []
            state, insides = self._found[number]
            for sign, onto, further, out in self._passing.moves(state, insides):
                found.append((out, self.number_of((onto, further))))
            self._moves[number] = found
        return self._moves[number]

    def onward(self, lot):
        """The signs that can come out next, ascending, each with the lot to which it leads."""
        found = {}
        for number in lot:
            for out, onto in self.moves(number):
                found.setdefault(out, {})[onto] = True
        return [(out, tuple(sorted(found[out]))) for out in sorted(found)]


def out_plan(chain, plan):
    """The least plan that bears just what comes out of a chain for a stream plan."""
    points = Points(Passing(chain, plan))
    lots, rows = rows_of_lots((0,), lambda lot: points.onward(lot), MOST_LOTS, "lot")
    states, ends = least_rows(rows, [True] * len(rows))
    return Plan(states, ends)
