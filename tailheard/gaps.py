"""Gaps: between which bounds the gap of two neighbours stays, whatever is called."""

from tailheard.betweens import Betweens
from tailheard.bounds import bounded_rows, greatest_high, judge_bounds, least_low
from tailheard.checks import key_of
from tailheard.duos import Duo
from tailheard.errors import NoBetween


class Gaps:
    """The lows and highs of all betweens of two kinds."""

    def __init__(self, make, ahead, behind, calls):
        betweens = Betweens(make, ahead, behind, calls)
        rows = bounded_rows(Duo(make, ahead, behind, calls), list(betweens))
        self.least = least_low(rows)
        self.greatest = greatest_high(rows)
        self.table = rows
        self._bounds = {row[:4]: row[4:] for row in rows}

    def __len__(self):
        return len(self.table)

    def __iter__(self):
        return iter(self.table)

    def bounds(self, between):
        """The low and the high of a between."""
        key = key_of(between)
        if key not in self._bounds:
            raise NoBetween(between)
        return self._bounds[key]


def judge_gaps(make, ahead, behind, calls, table):
    """What is wrong with a table of gaps, None if it is right."""
    return judge_bounds(Duo(make, ahead, behind, calls), table)
