"""Pair states: how two neighbours can stand to one another with a gap that keeps a wish."""

from tailheard.errors import TooMany
from tailheard.maps import joined
from tailheard.tandems import Tandem

MOST_PAIR_STATES = 1500


def windows_of(signs, length):
    """All strings of some signs of a length."""
    windows = [""]
    for _ in range(length):
        windows = [window + sign for window in windows for sign in signs]
    return windows


class PairStates:
    """The pair states of two kinds, and what signs make of them; one number more stands for a broken wish.

    Attributes: the number of a broken wish, that of the state at rest, and what no sign makes of all states.
    """

    def __init__(self, make, ahead, behind, wish):
        tandem = Tandem(make, ahead, behind)
        windows = windows_of(tandem.signs, tandem.lag)
        stands = [(first, second) for first in range(len(tandem.ahead)) for second in range(len(tandem.behind))]
        if len(stands) * len(windows) * (wish[1] - wish[0] + 1) > MOST_PAIR_STATES:
            raise TooMany("state")
        gaps = range(wish[0], wish[1] + 1)
        states = [(*stand, window, gap) for stand in stands for window in windows for gap in gaps]
        number = {state: at for at, state in enumerate(states)}
        self.broken = len(states)
        self.start = number.get((0, 0, "." * tandem.lag, tandem.seat), self.broken)
        self.unit = list(range(self.broken + 1))
        self._states = states
        self._maps = {sign: self.led(tandem, number, sign) for sign in tandem.signs}

    def led(self, tandem, number, sign):
        """For each state the number of the one to which a sign leads it."""
        found = []
        for first, second, window, gap in self._states:
            change, leader, follower, further = tandem.moved(first, second, window, sign)
            found.append(number.get((leader, follower, further, gap + change), self.broken))
        return [*found, self.broken]

    def of_sign(self, sign):
        """What a sign makes of all states."""
        return self._maps[sign]

    def joined(self, one, two):
        """What is made of all states by one thing and then another one."""
        return joined(one, two)

    def outcome(self, made):
        """The pair state to which the one at rest is led, None if the wish is broken on the way or by silence later."""
        found = made[self.start]
        seen = {}
        now = found
        while now != self.broken and now not in seen:
            seen[now] = True
            now = self._maps["."][now]
        if now == self.broken:
            return None
        return self._states[found]
