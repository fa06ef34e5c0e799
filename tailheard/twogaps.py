"""Gaps between two voices: between which bounds the gap of two neighbours stays, whatever is called from both ends."""

from tailheard.bounds import bounded_rows, greatest_high, judge_bounds, least_low
from tailheard.duets import Duet


class TwoGaps:
    """The lows and highs of all doubles of two kinds."""

    def __init__(self, make, ahead, behind, downs, ups):
        duet = Duet(make, ahead, behind, downs, ups)
        rows = bounded_rows(duet, duet.tree().ordered())
        self.least = least_low(rows)
        self.greatest = greatest_high(rows)
        self.table = rows

    def __len__(self):
        return len(self.table)

    def __iter__(self):
        return iter(self.table)


def judge_two_gaps(make, ahead, behind, downs, ups, table):
    """What is wrong with a table of gaps between two voices, None if it is right."""
    return judge_bounds(Duet(make, ahead, behind, downs, ups), table)
