"""Doubles: how two neighbours can stand to one another when words come from both ends."""

from tailheard.checks import key_of
from tailheard.duets import Duet
from tailheard.errors import NoBetween


class Doubles:
    """All doubles of two kinds under two calling plans, ordered by the least tuples of steps that lead to them."""

    def __init__(self, make, ahead, behind, downs, ups):
        duet = Duet(make, ahead, behind, downs, ups)
        found = duet.tree().ordered()
        self.make = make
        self.ahead = ahead
        self.behind = behind
        self.downs = downs
        self.ups = ups
        self._found = tuple(found)
        self._moves = {double: duet.moves(double) for double in found}

    def __len__(self):
        return len(self._found)

    def __iter__(self):
        return iter(self._found)

    def __contains__(self, double):
        return key_of(double) in self._moves

    def onward(self, double):
        """The triples (signs, change, double) of all steps of a double, ascending."""
        key = key_of(double)
        if key not in self._moves:
            raise NoBetween(double)
        return self._moves[key]
