"""Parted betweens: for how long two neighbours of one kind can stand unlike one another."""

from tailheard.betweens import Betweens
from tailheard.checks import frozen, is_integer, is_tuple
from tailheard.duos import Duo
from tailheard.errors import NotSteady
from tailheard.ranks import ranks_of
from tailheard.trees import way_back


def check_steady(make, name):
    """Raise Unknown unless there is a kind of this name, then NotSteady unless its drill is steady."""
    if not make[name].is_steady:
        raise NotSteady(name)


def is_parted(between):
    """Whether two groups stand unlike one another."""
    return between[1] != between[2]


def parted_onward(betweens, between):
    """The pairs (sign, between) of the steps that lead to a parted between."""
    return [(sign, onto) for sign, change, onto in betweens.onward(between) if is_parted(onto)]


def least_loop(betweens, home):
    """The least string by which a way of parted betweens leads back to where it began, None if there is none."""
    way = way_back(home, lambda between: parted_onward(betweens, between))
    return None if way is None else "".join(way)


class Parted:
    """Whether the parted betweens of a kind always end: ranks if they do, a loop if not."""

    def __init__(self, make, name, calls):
        check_steady(make, name)
        betweens = Betweens(make, name, name, calls)
        followers = {}
        for between in betweens:
            if is_parted(between):
                followers[between] = [onto for sign, onto in parted_onward(betweens, between)]
        ranks = ranks_of(followers)
        self.text = None
        self.loop = None
        self.longest = None
        self.table = None
        if len(ranks) == len(followers):
            self.table = tuple([(between, ranks.get(between, 0)) for between in betweens])
            self.longest = max([rank for between, rank in self.table])
        for between in followers:
            if self.loop is None and between not in ranks:
                self.loop = least_loop(betweens, between)
                self.text = None if self.loop is None else betweens[between]
        self._rows = self.table or ()

    def __bool__(self):
        return self.loop is None

    def __len__(self):
        return len(self._rows)

    def __iter__(self):
        return iter(self._rows)


def has_row_form(duo, row):
    """Whether a row has the form of a between with a rank."""
    return is_tuple(row, 2, 2) and duo.has_form(row[0]) and is_integer(row[1]) and row[1] >= 0


def is_right(duo, ranks, between, rank):
    """Whether a row with the form told is right by itself."""
    if is_parted(between) and rank < 1:
        return False
    for sign, change, onto in duo.moves(between):
        if onto not in ranks:
            return False
        if is_parted(between) and is_parted(onto) and ranks[onto] >= rank:
            return False
    return True


def judge_parted(make, name, calls, table):
    """What is wrong with a table of ranks, None if it is right."""
    check_steady(make, name)
    duo = Duo(make, name, name, calls)
    rows = frozen(table)
    if not isinstance(rows, tuple):
        return -1
    ranks = {}
    for row in rows:
        if has_row_form(duo, row):
            ranks.setdefault(row[0], row[1])
    if duo.origin not in ranks:
        return -1
    for at, row in enumerate(rows):
        if not has_row_form(duo, row) or not is_right(duo, ranks, row[0], row[1]):
            return at
    return None
