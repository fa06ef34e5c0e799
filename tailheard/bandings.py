"""Bandings: which groups of a column are given bands."""

from tailheard.errors import TooLong
from tailheard.feet import Hearing, check_cycle, check_ear, check_relay, check_slow, ticks_apart
from tailheard.maps import choices_below
from tailheard.steps import check_within

MOST_BANDED = 12


def is_good(hearing, fronts, choice, within):
    """Whether each group has a band or hears one, and each two neighbours are in step."""
    told = hearing.along(fronts, [at in choice for at in range(len(fronts))])
    if any([far is None for foot, far, band in told]):
        return False
    feet = [foot for foot, far, band in told]
    return all([ticks_apart(hearing.cycle, feet[at], feet[at + 1]) <= within for at in range(len(feet) - 1)])


def fewest_bands(column, slow, cycle, earshot, relay, within):
    """The least number of bands of a good banding, and the first one with so many; None and None if there is none."""
    if len(column) > MOST_BANDED:
        raise TooLong(len(column))
    check_slow(slow)
    check_cycle(cycle)
    check_ear(earshot)
    check_relay(relay)
    check_within(within)
    hearing = Hearing(slow, cycle, earshot, relay)
    fronts = column.front_row
    for choice in choices_below(len(column)):
        if is_good(hearing, fronts, choice, within):
            return (len(choice), choice)
    return (None, None)
