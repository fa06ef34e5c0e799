"""Two kinds as neighbours under a calling plan: how a sign leads from one between to the next."""

from tailheard.checks import in_bounds, is_tuple
from tailheard.heard import ENDED, steps
from tailheard.plans import check_calls
from tailheard.tandems import Tandem


class Duo:
    """A kind ahead and a kind behind, and the calling plan from which both hear.

    Attributes: the seat, and the first between.
    """

    def __init__(self, make, ahead, behind, calls):
        tandem = Tandem(make, ahead, behind)
        check_calls(make, calls)
        self.seat = tandem.seat
        self.origin = (0, 0, 0, "." * tandem.lag)
        self._tandem = tandem
        self._heard = {state: steps(calls, state) for state in range(ENDED, len(calls))}

    def moves(self, between):
        """The triples (sign, change, between) of the steps of a between, ascending."""
        state, first, second, window = between
        found = []
        for sign, onto in self._heard[state]:
            change, leader, follower, further = self._tandem.moved(first, second, window, sign)
            found.append((sign, change, (onto, leader, follower, further)))
        return tuple(found)

    def signs_onward(self, between):
        """The pairs (sign, between) of the steps of a between."""
        return [(sign, onto) for sign, change, onto in self.moves(between)]

    def has_form(self, thing):
        """Whether a thing has the form of a between of these kinds."""
        if not is_tuple(thing, 4, 4) or not in_bounds(thing[0], ENDED, len(self._heard) - 2):
            return False
        return self._tandem.are_standings(thing[1], thing[2]) and self._tandem.is_window(thing[3])
