"""Wishes: whether all gaps of all columns of a column plan keep one, whatever is called."""

from tailheard.bounds import holds_seat, holds_steps
from tailheard.checks import frozen, is_integer, is_letter, is_tuple, keeps, wish_of
from tailheard.duos import Duo
from tailheard.gaps import Gaps
from tailheard.heard import neighbours
from tailheard.plans import check_calls, check_column_plan
from tailheard.trees import least_way

# What a search looks for: it is no between and no point of a column, but can be compared with them.
FOUND = ()


def always_keeps(wish, gaps):
    """Whether all gaps of two kinds keep a wish."""
    if gaps.least is None or gaps.greatest is None:
        return False
    return keeps(wish, gaps.least) and keeps(wish, gaps.greatest)


def gaps_of_neighbours(make, columns, calls):
    """The gaps of all neighbours of a column plan."""
    return {pair: Gaps(make, pair[0], pair[1], calls) for pair in neighbours(make, columns)}


def broken_pairs(gaps_of, wish):
    """Those neighbours of which some gap does not keep a wish."""
    return [pair for pair in gaps_of if not always_keeps(wish, gaps_of[pair])]


def least_breaking(duo, wish):
    """The least string that leads two kinds to a gap that does not keep a wish, None if there is none."""
    def onward(point):
        between, gap = point
        found = []
        for sign, change, onto in duo.moves(between):
            if keeps(wish, gap + change):
                found.append((sign, (onto, gap + change)))
            else:
                found.append((sign, FOUND))
        return found

    if not keeps(wish, duo.seat):
        return ""
    way = least_way((duo.origin, duo.seat), onward, FOUND)
    return None if way is None else "".join(way)


def least_column(columns, broken):
    """The least column of a column plan with neighbours that are broken; there is one."""
    def onward(point):
        state, last, is_broken = point
        found = []
        for name, onto in columns.states[state]:
            is_now = is_broken or (last, name) in broken
            if is_now and onto in columns.ends:
                found.append((name, FOUND))
            else:
                found.append((name, (onto, name, is_now)))
        return found

    return "".join(least_way((0, "", False), onward, FOUND))


def breach_of(make, columns, calls, wish, broken):
    """The least column, the least calling and the first group that break a wish; some neighbours are broken."""
    column = least_column(columns, broken)
    texts = {}
    for at in range(len(column) - 1):
        pair = (column[at], column[at + 1])
        if pair in broken and pair not in texts:
            texts[pair] = least_breaking(Duo(make, pair[0], pair[1], calls), wish)
    calling = sorted([(len(text), text) for text in texts.values()])[0][1]
    number = 0
    while texts.get((column[number], column[number + 1])) != calling:
        number = number + 1
    return (column, calling, number)


class Kept:
    """Whether a wish is kept by a column plan: a table of gaps if it is, a breach if it is not."""

    def __init__(self, make, columns, calls, wish):
        check_column_plan(make, columns)
        check_calls(make, calls)
        bounds = wish_of(wish)
        gaps_of = gaps_of_neighbours(make, columns, calls)
        broken = broken_pairs(gaps_of, bounds)
        rows = [(*pair, *row) for pair in gaps_of for row in gaps_of[pair]]
        self.breach = breach_of(make, columns, calls, bounds, broken) if broken else None
        self.table = None if broken else tuple(rows)
        self._rows = self.table or ()

    def __bool__(self):
        return self.breach is None

    def __len__(self):
        return len(self._rows)

    def __iter__(self):
        return iter(self._rows)


class KeptJudge:
    """What a table of a kept wish is judged by."""

    def __init__(self, make, columns, calls, wish):
        check_column_plan(make, columns)
        check_calls(make, calls)
        self.names = make.all_names
        self.wish = wish_of(wish)
        self.near = neighbours(make, columns)
        self.duos = {(one, two): Duo(make, one, two, calls) for one in make for two in make}

    def has_form(self, row):
        """Whether a row has the form of two names, a between, a low and a high."""
        if not is_tuple(row, 8, 8) or not is_letter(row[0], self.names) or not is_letter(row[1], self.names):
            return False
        return self.duos[row[:2]].has_form(row[2:6]) and is_integer(row[6]) and is_integer(row[7])

    def told(self, rows):
        """For each two kinds, the low and the high of each between by its first row."""
        found = {pair: {} for pair in self.duos}
        for row in rows:
            if self.has_form(row):
                found[row[:2]].setdefault(row[2:6], row[6:])
        return found

    def is_right(self, told, row):
        """Whether a row with the form told is right by itself."""
        pair, between, low, high = row[:2], row[2:6], row[6], row[7]
        if pair not in self.near or not keeps(self.wish, low) or not keeps(self.wish, high):
            return False
        duo = self.duos[pair]
        return holds_seat(duo, between, low, high) and holds_steps(duo, told[pair], between, low, high)


def judge_kept(make, columns, calls, wish, table):
    """What is wrong with a table of a kept wish, None if it is right."""
    judge = KeptJudge(make, columns, calls, wish)
    rows = frozen(table)
    told = judge.told(rows) if isinstance(rows, tuple) else None
    if told is None or not all([judge.duos[pair].origin in told[pair] for pair in judge.near]):
        return -1
    for at, row in enumerate(rows):
        if not judge.has_form(row) or not judge.is_right(told, row):
            return at
    return None
