"""Betweens: how two neighbours can stand to one another."""

from tailheard.checks import key_of
from tailheard.duos import Duo
from tailheard.errors import NoBetween
from tailheard.trees import whole_tree

MOST_BETWEENS = 600


class Betweens:
    """All betweens of two kinds under a calling plan, ordered by the least strings that lead to them."""

    def __init__(self, make, ahead, behind, calls):
        duo = Duo(make, ahead, behind, calls)
        tree = whole_tree(duo.origin, lambda between: duo.signs_onward(between), MOST_BETWEENS, "between")
        found = tree.ordered()
        self.make = make
        self.ahead = ahead
        self.behind = behind
        self.calls = calls
        self._found = tuple(found)
        self._texts = {between: "".join(tree.signs_to(between)) for between in found}
        self._moves = {between: duo.moves(between) for between in found}

    def __len__(self):
        return len(self._found)

    def __iter__(self):
        return iter(self._found)

    def __contains__(self, between):
        return key_of(between) in self._texts

    def __getitem__(self, between):
        key = key_of(between)
        if key not in self._texts:
            raise NoBetween(between)
        return self._texts[key]

    def onward(self, between):
        """The triples (sign, change, between) of all steps of a between, ascending."""
        key = key_of(between)
        if key not in self._moves:
            raise NoBetween(between)
        return self._moves[key]
