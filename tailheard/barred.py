"""Barred words: which words must not be called so that a wish is kept."""

from tailheard.checks import SMALL, is_rising, is_text, keeps, wish_of
from tailheard.errors import BadWords
from tailheard.heard import neighbours
from tailheard.kept import Kept, broken_pairs, gaps_of_neighbours
from tailheard.plans import Plan, check_calls, check_column_plan
from tailheard.rows import flags_of, hopeful, least_rows


def check_lot(lot):
    """Raise BadWords unless this is an ascending string of small letters."""
    if not is_text(lot, SMALL, 0, len(SMALL)) or not is_rising(lot):
        raise BadWords(lot)


def barred_plan(plan, lot):
    """The least plan that bears the strings of a plan without the letters of a lot, None if there are none."""
    check_lot(lot)
    rows = [[pair for pair in row if pair[0] not in lot] for row in plan.states]
    flags = flags_of(len(rows), plan.ends)
    if not hopeful(rows, flags)[0]:
        return None
    states, ends = least_rows(rows, flags)
    return Plan(states, ends)


def all_lots(words):
    """All lots of some words, ordered by length."""
    lots = [""]
    for word in words:
        lots = lots + [lot + word for lot in lots]
    return [lot for many, lot in sorted([(len(lot), lot) for lot in lots])]


def is_part(lot, other):
    """Whether all words of a lot are in another one."""
    return all([word in other for word in lot])


class Barred:
    """Which lots of words, barred from a calling plan, cure it: then a wish is kept by a column plan."""

    def __init__(self, make, columns, calls, wish):
        check_column_plan(make, columns)
        check_calls(make, calls)
        self._make = make
        self._columns = columns
        self._calls = calls
        self._wish = wish_of(wish)
        # The plan itself goes first: it can have more betweens than the least plan that is alike to it.
        broken = broken_pairs(gaps_of_neighbours(make, columns, calls), self._wish)
        self.least_lots = self.curing_lots(make.words) if broken else ("",)

    def __len__(self):
        return len(self.least_lots)

    def __iter__(self):
        return iter(self.least_lots)

    def curing_lots(self, words):
        """The lots of some words that cure while no proper part of them does, ordered by length."""
        least_lots = []
        # What a lot bars a greater one bars too, so no lot needs to be looked at of which a part cures.
        for lot in all_lots(words):
            if not any([is_part(least, lot) for least in least_lots]) and self.cures(lot):
                least_lots.append(lot)
        return tuple(least_lots)

    def cures(self, lot):
        """Whether the wish is kept when a lot is barred."""
        left = barred_plan(self._calls, lot)
        if left is None:
            seats = [self._make.seat_of(ahead, behind) for ahead, behind in neighbours(self._make, self._columns)]
            return all([keeps(self._wish, seat) for seat in seats])
        return not broken_pairs(gaps_of_neighbours(self._make, self._columns, left), self._wish)

    def breach_of(self, lot):
        """The breach of the wish when a lot is barred, None if there is none or nothing is left to be called."""
        left = barred_plan(self._calls, lot)
        if left is None:
            return None
        return Kept(self._make, self._columns, left, self._wish).breach
