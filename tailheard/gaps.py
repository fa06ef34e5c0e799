"""Gaps: between which bounds the gap of two neighbours stays, whatever is called."""

from tailheard.betweens import Betweens
from tailheard.checks import frozen, is_integer, is_tuple, key_of
from tailheard.duos import Duo
from tailheard.errors import NoBetween
from tailheard.sums import least_sums


class Gaps:
    """The lows and highs of all betweens of two kinds."""

    def __init__(self, make, ahead, behind, calls):
        betweens = Betweens(make, ahead, behind, calls)
        seat = make.seat_of(ahead, behind)
        numbers = {between: at for at, between in enumerate(betweens)}
        falls = []
        rises = []
        for between in betweens:
            for sign, change, onto in betweens.onward(between):
                falls.append((numbers[between], numbers[onto], change))
                rises.append((numbers[between], numbers[onto], -change))
        lows = [None if worth is None else seat + worth for worth in least_sums(len(numbers), falls)]
        highs = [None if worth is None else seat - worth for worth in least_sums(len(numbers), rises)]
        self.least = None if None in lows else min(lows)
        self.greatest = None if None in highs else max(highs)
        self.table = tuple([(*between, lows[at], highs[at]) for between, at in numbers.items()])
        self._bounds = {row[:4]: row[4:] for row in self.table}

    def __len__(self):
        return len(self.table)

    def __iter__(self):
        return iter(self.table)

    def bounds(self, between):
        """The low and the high of a between."""
        key = key_of(between)
        if key not in self._bounds:
            raise NoBetween(between)
        return self._bounds[key]


def is_bound(worth):
    """Whether something is None or an integer."""
    return worth is None or is_integer(worth)


def has_row_form(duo, row):
    """Whether a row has the form of a between with its low and its high."""
    return is_tuple(row, 6, 6) and duo.has_form(row[:4]) and is_bound(row[4]) and is_bound(row[5])


def holds_seat(duo, between, low, high):
    """Whether a low and a high leave room for the seat, if this is the first between."""
    if between != duo.beginning:
        return True
    return (low is None or low <= duo.seat) and (high is None or high >= duo.seat)


def holds_steps(duo, told, between, low, high):
    """Whether what is told of the betweens behind leaves room for all that steps make of a low and a high."""
    for sign, change, onto in duo.moves(between):
        if onto not in told:
            return False
        further_low, further_high = told[onto]
        if further_low is not None and (low is None or further_low > low + change):
            return False
        if further_high is not None and (high is None or further_high < high + change):
            return False
    return True


def judge_gaps(make, ahead, behind, calls, table):
    """What is wrong with a table of gaps, None if it is right."""
    duo = Duo(make, ahead, behind, calls)
    rows = frozen(table)
    if not isinstance(rows, tuple):
        return -1
    told = {}
    for row in rows:
        if has_row_form(duo, row):
            told.setdefault(row[:4], row[4:])
    if duo.beginning not in told:
        return -1
    for at, row in enumerate(rows):
        if not has_row_form(duo, row) or not holds_seat(duo, row[:4], row[4], row[5]):
            return at
        if not holds_steps(duo, told, row[:4], row[4], row[5]):
            return at
    return None
