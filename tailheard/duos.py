"""Two kinds as neighbours under a calling plan: how a sign leads from one between to the next."""

from tailheard.checks import in_bounds, is_text, is_tuple
from tailheard.heard import ENDED, steps
from tailheard.plans import check_calls


class Duo:
    """A kind ahead and a kind behind, and the calling plan from which both hear.

    Attributes: the seat, and the first between.
    """

    def __init__(self, make, ahead, behind, calls):
        make.check_name(ahead)
        make.check_name(behind)
        check_calls(make, calls)
        self.seat = make.seat_of(ahead, behind)
        self.beginning = (0, 0, 0, "." * make.lag_of(ahead))
        self._signs = "." + make.words
        self._ahead = make[ahead].standings
        self._behind = make[behind].standings
        self._heard = {state: steps(calls, state) for state in range(ENDED, len(calls))}

    def moves(self, between):
        """The triples (sign, change, between) of the steps of a between, ascending."""
        state, first, second, window = between
        body = self._ahead[first][1]
        follower = self._behind[second][2][self._signs.index(window[0])]
        found = []
        for sign, onto in self._heard[state]:
            leader = self._ahead[first][2][self._signs.index(sign)]
            gain = self._ahead[leader][0] + body - self._ahead[leader][1]
            change = gain - self._behind[follower][0]
            found.append((sign, change, (onto, leader, follower, window[1:] + sign)))
        return tuple(found)

    def signs_onward(self, between):
        """The pairs (sign, between) of the steps of a between."""
        return [(sign, onto) for sign, change, onto in self.moves(between)]

    def has_form(self, thing):
        """Whether a thing has the form of a between of these kinds."""
        if not is_tuple(thing, 4, 4):
            return False
        state, first, second, window = thing
        if not in_bounds(state, ENDED, len(self._heard) - 2):
            return False
        if not in_bounds(first, 0, len(self._ahead) - 1) or not in_bounds(second, 0, len(self._behind) - 1):
            return False
        lag = len(self.beginning[3])
        return is_text(window, self._signs, lag, lag)
