"""Needs: how far neighbours must stand apart at rest, whatever is called."""

from tailheard.checks import check_least
from tailheard.duos import Duo
from tailheard.errors import NoSeat
from tailheard.gaps import Gaps
from tailheard.heard import neighbours
from tailheard.makes import MOST_SEAT
from tailheard.plans import check_calls, check_column_plan


def need(make, ahead, behind, calls, least):
    """The least seat of two kinds with which no gap falls below the least, None if there is none."""
    duo = Duo(make, ahead, behind, calls)
    check_least(least)
    gaps = Gaps(make, ahead, behind, calls)
    if gaps.least is None:
        return None
    return least + duo.seat - gaps.least


def seated(make, columns, calls, least):
    """The make with the needs of the neighbours of a column plan as its seats."""
    check_column_plan(make, columns)
    check_calls(make, calls)
    check_least(least)
    rows = [(ahead, behind, need(make, ahead, behind, calls, least)) for ahead, behind in neighbours(make, columns)]
    for ahead, behind, paces in rows:
        if paces is None or paces > MOST_SEAT:
            raise NoSeat(ahead, behind)
    return make.reseated(rows)
